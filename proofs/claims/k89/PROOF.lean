import PyProof.Rows.All
import Wide.All
import OpenK.AllK
import Wide.FinOn
import HandS.ForMost
import HandS.Walk
import HandS.TupAny
import HandS.TupLe
import HandS.Deep
import HandS.IsInst
import HandS.Flow
import HandS.Zip
import HandS.NoneIn
import HandS.DictComp
import HandS.Iter
import HandS.SetFor
import HandS.Style
import KE.SortData
import PySem.Challenge.RW_whichmethod_k89_whole_places_side_by_sid
set_option Elab.async false
set_option linter.all false
set_option maxRecDepth 100000
/-! DSem: what a def of plain data reckons, without a heap. -/
namespace DX
open PySem PySem.Spec PyProof.Rows L2

/-- data: what never changes any more -/
inductive D where
  | non
  | bl (b : Bool)
  | int (i : Int)
  | str (x : Str)
  | tup (xs : List D)
  | lst (xs : List D)
  | dK (kvs : List (Key × D))
  | dT (kvs : List (List Key × D))
  | ins (c : Str) (fs : List (Str × D))
  /-- the script: ints -/
  | scr (ns : List Int)
  /-- a tuple of the module's top -/
  | kt (xs : List D)
  /-- a thing that changes, while a loop walks it -/
  | lk (d : D)

/-- a slot's value: data, or the n-th of the things that change -/
inductive Sv where
  | dat (d : D)
  | cel (n : Nat)

abbrev Env := List (Option Sv)
abbrev Store := List D
abbrev SE := Env → Store → Option (Sv × Store)
abbrev ST := Env → Store → Option (Bool × Store)
abbrev SA := Env → Store → Option (List Sv × Store)
inductive Fl where
  | nx (ρ : Env)
  | rt (v : Sv)
  | bk (ρ : Env)
  | ct (ρ : Env)
abbrev SS := Env → Store → Option (Fl × Store)

mutual
def toPy : D → PyData
  | .non => .none
  | .bl b => .bool b
  | .int i => .int i
  | .str x => .str x
  | .tup xs => .tuple (toPyL xs)
  | .lst xs => .list (toPyL xs)
  | .dK _ => .dict []
  | .dT _ => .dict []
  | .ins _ _ => .dict []
  | .scr _ => .dict []
  | .kt _ => .dict []
  | .lk _ => .dict []
def toPyL : List D → List PyData
  | [] => []
  | d :: ds => toPy d :: toPyL ds
end
theorem toPyL_map : ∀ ds : List D, toPyL ds = ds.map toPy
  | [] => rfl
  | d :: ds => by rw [toPyL, toPyL_map ds]; rfl

/-- a thing that changes, its lock left out -/
def unlk : D → D
  | .lk d => d
  | d => d
/-- the data a slot's value stands for -/
def see (C : Store) : Sv → Option D
  | .dat d => some d
  | .cel n => (C[n]?).map unlk
def keyD : Key → D
  | .inl i => .int i
  | .inr x => .str x
def dKey : D → Option Key
  | .int i => some (.inl i)
  | .str x => some (.inr x)
  | _ => none
def dKeys : List D → Option (List Key)
  | [] => some []
  | d :: ds => match dKey d, dKeys ds with
    | some k, some ks => some (k :: ks)
    | _, _ => none
theorem dKey_some {d : D} {k : Key} (h : dKey d = some k) : d = keyD k := by
  cases d <;> simp [dKey] at h <;> subst h <;> rfl
theorem dKeys_some : ∀ {ds : List D} {ks : List Key}, dKeys ds = some ks → ds = ks.map keyD
  | [], ks, h => by simp [dKeys] at h; subst h; rfl
  | d :: ds, ks, h => by
    unfold dKeys at h
    split at h
    · rename_i k ks' h1 h2
      cases h
      rw [dKey_some h1, dKeys_some h2]; rfl
    · cases h
/-- look-up and store in a dict's pairs -/
def dGet {κ α : Type} [DecidableEq κ] (kvs : List (κ × α)) (k : κ) : Option α := (kvs.find? fun kv => decide (kv.1 = k)).map (·.2)
def dPut {κ α : Type} [DecidableEq κ] (kvs : List (κ × α)) (k : κ) (v : α) : List (κ × α) :=
  if (kvs.any fun kv => decide (kv.1 = k)) then kvs.map (fun kv => if kv.1 = k then (kv.1, v) else kv) else kvs ++ [(k, v)]
/-- d[k] of a dict: none, if this is no dict or the key no key; some none: not there -/
def dictAt (d k : D) : Option (Option D) := match d with
  | .dK kvs => (dKey k).map (dGet kvs)
  | .dT kvs => match k with
    | .tup ks => (dKeys ks).map (dGet kvs)
    | _ => none
  | _ => none
def dictPut (d k v : D) : Option D := match d with
  | .dK kvs => (dKey k).map fun k => .dK (dPut kvs k v)
  | .dT kvs => match k with
    | .tup ks => (dKeys ks).map fun k => .dT (dPut kvs k v)
    | _ => none
  | _ => none
/-- how many -/
def lenD : D → Option Nat
  | .str x => some x.length
  | .tup xs => some xs.length
  | .lst xs => some xs.length
  | .dK kvs => some kvs.length
  | .dT kvs => some kvs.length
  | _ => none
def truD : D → Option Bool
  | .non => some false
  | .bl b => some b
  | .int i => some (i != 0)
  | .str x => if x.length ≤ sizeLine then some ((x.length : Int) != 0) else none
  | .tup xs => some (!xs.isEmpty)
  | .lst xs => some (!xs.isEmpty)
  | _ => none

/-! ### one after another -/
def bnd {α β : Type} (o : Option (α × Store)) (k : α → Store → Option β) : Option β := match o with
  | some (a, C) => k a C
  | none => none
def bn1 {α β : Type} (o : Option α) (k : α → Option β) : Option β := match o with
  | some a => k a
  | none => none
def gd {β : Type} (c : Prop) [Decidable c] (o : Option β) : Option β := if c then o else none
@[simp] theorem bnd_s {α β : Type} (a : α) (C : Store) (k : α → Store → Option β) : bnd (some (a, C)) k = k a C := rfl
@[simp] theorem bnd_n {α β : Type} (k : α → Store → Option β) : bnd none k = none := rfl
@[simp] theorem bn1_s {α β : Type} (a : α) (k : α → Option β) : bn1 (some a) k = k a := rfl
@[simp] theorem bn1_n {α β : Type} (k : α → Option β) : bn1 none k = none := rfl
theorem gd_t {β : Type} {c : Prop} [Decidable c] {o : Option β} (h : c) : gd c o = o := if_pos h
theorem bnd_i {α β : Type} {o : Option (α × Store)} {k : α → Store → Option β} {z : β} (h : bnd o k = some z) : ∃ a C1, o = some (a, C1) ∧ k a C1 = some z := by
  cases o with
  | none => cases h
  | some p => obtain ⟨a, C1⟩ := p; exact ⟨a, C1, rfl, h⟩
theorem bn1_i {α β : Type} {o : Option α} {k : α → Option β} {z : β} (h : bn1 o k = some z) : ∃ a, o = some a ∧ k a = some z := by
  cases o with
  | none => cases h
  | some a => exact ⟨a, rfl, h⟩
theorem gd_i {α : Type} {c : Prop} [Decidable c] {o : Option α} {z : α} (h : gd c o = some z) : c ∧ o = some z := by
  unfold gd at h
  by_cases hc : c
  · rw [if_pos hc] at h; exact ⟨hc, h⟩
  · rw [if_neg hc] at h; cases h

/-! ### expressions -/
abbrev SN := Env → Store → Option (D × Store)
def eVar (i : Nat) : SE := fun ρ C => bn1 (ρ[i]?.join) fun v => some (v, C)
def eC (d : D) : SE := fun _ C => some (.dat d, C)
/-- two, from the left: the first one is seen behind the second one -/
def eBin (r : D → D → Option D) (f g : SE) : SE := fun ρ C => bnd (f ρ C) fun v C1 => bnd (g ρ C1) fun w C2 => bn1 (see C2 v) fun d => bn1 (see C2 w) fun e => bn1 (r d e) fun z => some (.dat z, C2)
def eUn (r : D → Option D) (f : SE) : SE := fun ρ C => bnd (f ρ C) fun v C1 => bn1 (see C1 v) fun d => bn1 (r d) fun z => some (.dat z, C1)
def aNil : SA := fun _ C => some ([], C)
def aCons (f : SE) (g : SA) : SA := fun ρ C => bnd (f ρ C) fun v C1 => bnd (g ρ C1) fun vs C2 => some (v :: vs, C2)
/-- all are data -/
def dats : List Sv → Option (List D)
  | [] => some []
  | .dat d :: vs => bn1 (dats vs) fun ds => some (d :: ds)
  | .cel _ :: _ => none
def sees (C : Store) : List Sv → Option (List D)
  | [] => some []
  | v :: vs => bn1 (see C v) fun d => bn1 (sees C vs) fun ds => some (d :: ds)
def eTup (g : SA) : SE := fun ρ C => bnd (g ρ C) fun vs C1 => bn1 (dats vs) fun ds => gd (ds.length ≤ 1000) (some (.dat (.tup ds), C1))
def nLst (g : SA) : SN := fun ρ C => bnd (g ρ C) fun vs C1 => bn1 (dats vs) fun ds => gd (ds.length ≤ 1000) (some (.lst ds, C1))
def nolk : D → Bool
  | .lk _ => false
  | _ => true
/-- a new object as data -/
def eFr (f : SN) : SE := fun ρ C => bnd (f ρ C) fun d C1 => gd (nolk d = true) (some (.dat d, C1))
/-- a built-in -/
def eB (k : List D → Option D) (a : SA) : SE := fun ρ C => bnd (a ρ C) fun ss C1 => bn1 (sees C1 ss) fun ds => bn1 (k ds) fun z => some (.dat z, C1)
/-- a built-in that makes a new object -/
def nB (k : List D → Option D) (a : SA) : SN := fun ρ C => bnd (a ρ C) fun ss C1 => bn1 (sees C1 ss) fun ds => bn1 (k ds) fun z => some (z, C1)
def nBin (r : D → D → Option D) (f g : SE) : SN := fun ρ C => bnd (f ρ C) fun v C1 => bnd (g ρ C1) fun w C2 => bn1 (see C2 v) fun d => bn1 (see C2 w) fun e => bn1 (r d e) fun z => some (z, C2)
/-! ### tests -/
/-- an expression's value as a test -/
def tB' (f : SE) : ST := fun ρ C => bnd (f ρ C) fun v C1 => match v with
  | .dat (.bl b) => some (b, C1)
  | _ => none
def tTru (f : SE) : ST := fun ρ C => bnd (f ρ C) fun v C1 => bn1 (see C1 v) fun d => bn1 (truD d) fun b => some (b, C1)
def tAnd' (f g : ST) : ST := fun ρ C => bnd (f ρ C) fun b C1 => if b = true then g ρ C1 else some (false, C1)
def tOr' (f g : ST) : ST := fun ρ C => bnd (f ρ C) fun b C1 => if b = true then some (true, C1) else g ρ C1
def tNot' (f : ST) : ST := fun ρ C => bnd (f ρ C) fun b C1 => some (!b, C1)
def eIf (c : ST) (f g : SE) : SE := fun ρ C => bnd (c ρ C) fun b C1 => if b = true then f ρ C1 else g ρ C1
def nIf (c : ST) (f g : SN) : SN := fun ρ C => bnd (c ρ C) fun b C1 => if b = true then f ρ C1 else g ρ C1
/-- and, or, not as values -/
def eAndV (f g : SE) : SE := fun ρ C => bnd (f ρ C) fun v C1 => match v with
  | .dat (.bl true) => g ρ C1
  | .dat (.bl false) => some (.dat (.bl false), C1)
  | _ => none
def eOrV (f g : SE) : SE := fun ρ C => bnd (f ρ C) fun v C1 => match v with
  | .dat (.bl true) => some (.dat (.bl true), C1)
  | .dat (.bl false) => g ρ C1
  | _ => none
def eNotV (f : SE) : SE := fun ρ C => bnd (f ρ C) fun v C1 => match v with
  | .dat (.bl b) => some (.dat (.bl (!b)), C1)
  | _ => none
end DX

/-! DRel: data and the heap. -/
namespace DX
open PySem PySem.Spec L2

structure Gm where
  K : PySem.W.Frag
  cls : Str → Addr

def TupAt (G : Gm) (M : Addr → Prop) (H : Hp) (a : Addr) (vs : List V) : Prop := ¬ M a ∧ H a = some (.tup vs)
def LstAt (G : Gm) (M : Addr → Prop) (H : Hp) (a : Addr) (vs : List V) : Prop := (¬ M a ∧ Rd H a (.lst vs)) ∨ ∀ H', SqL G.K H' a vs
theorem TupAt.sq {G : Gm} {M : Addr → Prop} {H : Hp} {a : Addr} {vs : List V} (h : TupAt G M H a vs) : SqT G.K H a vs := .inl (.inl h.2)
theorem LstAt.sq {G : Gm} {M : Addr → Prop} {H : Hp} {a : Addr} {vs : List V} (h : LstAt G M H a vs) : SqL G.K H a vs := by
  rcases h with ⟨_, h⟩ | h
  · exact .inl h
  · exact h H

mutual
inductive Rp (G : Gm) (M : Addr → Prop) (H : Hp) : V → D → Prop
  | non : Rp G M H .non .non
  | bl (b : Bool) : Rp G M H (.bl b) (.bl b)
  | int (i : Int) : Rp G M H (.int i) (.int i)
  | str (x : Str) : Rp G M H (.str x) (.str x)
  | tup {a : Addr} {vs : List V} {ds : List D} : TupAt G M H a vs → vs.length ≤ sizeLine → RpL G M H vs ds → Rp G M H (.ref a) (.tup ds)
  | lst {a : Addr} {vs : List V} {ds : List D} : ¬ M a → Rd H a (.lst vs) → vs.length ≤ sizeLine → RpL G M H vs ds → Rp G M H (.ref a) (.lst ds)
  | kt {a : Addr} {vs : List V} {ds : List D} : (∀ H', SqT G.K H' a vs) → RpL G M H vs ds → Rp G M H (.ref a) (.kt ds)
  | scr {a : Addr} {ns : List Int} : LstAt G M H a (ns.map V.int) → ns.length ≤ 63 → Rp G M H (.ref a) (.scr ns)
  | dK {a : Addr} {kvs : List (Key × V)} {ds : List (Key × D)} : ¬ M a → Rd H a (.dK kvs) → kvs.length ≤ sizeLine → kvs.map (·.1) = ds.map (·.1) → RpL G M H (kvs.map (·.2)) (ds.map (·.2)) → Rp G M H (.ref a) (.dK ds)
  | dT {a : Addr} {kvs : List (List Key × V)} {ds : List (List Key × D)} : ¬ M a → Rd H a (.dT kvs) → kvs.length ≤ sizeLine → kvs.map (·.1) = ds.map (·.1) → RpL G M H (kvs.map (·.2)) (ds.map (·.2)) → Rp G M H (.ref a) (.dT ds)
  | ins {a dx : Addr} {c : Str} {fs : List (Str × V)} {ds : List (Str × D)} : ¬ M a → ¬ M dx → H a = some (.ins (G.cls c) dx fs) → H dx = some (.own a) → fs.map (·.1) = ds.map (·.1) → RpL G M H (fs.map (·.2)) (ds.map (·.2)) → Rp G M H (.ref a) (.ins c ds)
inductive RpL (G : Gm) (M : Addr → Prop) (H : Hp) : List V → List D → Prop
  | nil : RpL G M H [] []
  | cons {v : V} {d : D} {vs : List V} {ds : List D} : Rp G M H v d → RpL G M H vs ds → RpL G M H (v :: vs) (d :: ds)
end

/-- what a change of heap and mask must leave -/
structure Keeps (M M' : Addr → Prop) (H H' : Hp) : Prop where
  msk : ∀ a, ¬ M a → H a ≠ none → ¬ M' a
  keep : ∀ a u, ¬ M a → H a = some u → H' a = some u
section
variable {G : Gm} {M M' : Addr → Prop} {H H' : Hp}
theorem Rd.live {H : Hp} {a : Addr} {u : HO} (h : Rd H a u) : H a ≠ none := by
  rcases h with h | ⟨o, h⟩ <;> rw [h] <;> simp
theorem Keeps.rd (k : Keeps M M' H H') {a : Addr} {u : HO} (n : ¬ M a) (h : Rd H a u) : Rd H' a u := by
  rcases h with h | ⟨o, h⟩
  · exact .inl (k.keep a _ n h)
  · exact .inr ⟨o, k.keep a _ n h⟩
theorem TupAt.keeps (k : Keeps M M' H H') {a : Addr} {vs : List V} (h : TupAt G M H a vs) : TupAt G M' H' a vs :=
  ⟨k.msk a h.1 (by rw [h.2]; simp), k.keep a _ h.1 h.2⟩
theorem LstAt.keeps (k : Keeps M M' H H') {a : Addr} {vs : List V} (h : LstAt G M H a vs) : LstAt G M' H' a vs := by
  rcases h with ⟨n, h⟩ | h
  · refine .inl ⟨k.msk a n (Rd.live h), ?_⟩
    rcases h with h | ⟨o, h⟩
    · exact .inl (k.keep a _ n h)
    · exact .inr ⟨o, k.keep a _ n h⟩
  · exact .inr h
mutual
theorem Rp.keeps (k : Keeps M M' H H') : ∀ {v : V} {d : D}, Rp G M H v d → Rp G M' H' v d
  | _, _, .non => .non
  | _, _, .bl b => .bl b
  | _, _, .int i => .int i
  | _, _, .str x => .str x
  | _, _, .tup h l r => .tup (h.keeps k) l (RpL.keeps k r)
  | _, _, .lst n h l r => .lst (k.msk _ n (Rd.live h)) (k.rd n h) l (RpL.keeps k r)
  | _, _, .kt h r => .kt h (RpL.keeps k r)
  | _, _, .scr h l => .scr (h.keeps k) l
  | _, _, .dK n h l e r => .dK (k.msk _ n (Rd.live h)) (k.rd n h) l e (RpL.keeps k r)
  | _, _, .dT n h l e r => .dT (k.msk _ n (Rd.live h)) (k.rd n h) l e (RpL.keeps k r)
  | _, _, .ins n n' h h' e r => .ins (k.msk _ n (by rw [h]; simp)) (k.msk _ n' (by rw [h']; simp)) (k.keep _ _ n h) (k.keep _ _ n' h') e (RpL.keeps k r)
theorem RpL.keeps (k : Keeps M M' H H') : ∀ {vs : List V} {ds : List D}, RpL G M H vs ds → RpL G M' H' vs ds
  | _, _, .nil => .nil
  | _, _, .cons r t => .cons (Rp.keeps k r) (RpL.keeps k t)
end
theorem RpL.length : ∀ {vs : List V} {ds : List D}, RpL G M H vs ds → vs.length = ds.length
  | _, _, .nil => rfl
  | _, _, .cons _ t => by simp [RpL.length t]
theorem RpL.get : ∀ {vs : List V} {ds : List D} {i : Nat} {d : D}, RpL G M H vs ds → ds[i]? = some d → ∃ v, vs[i]? = some v ∧ Rp G M H v d
  | _, _, _, _, .nil, e => by simp at e
  | _, _, 0, _, .cons r _, e => by simp at e; subst e; exact ⟨_, rfl, r⟩
  | _, _, i + 1, d, .cons _ t, e => by
    obtain ⟨u, h1, h2⟩ := RpL.get (i := i) (d := d) t (by simpa using e)
    exact ⟨u, by simpa using h1, h2⟩
theorem RpL.getV : ∀ {vs : List V} {ds : List D} {i : Nat} {v : V}, RpL G M H vs ds → vs[i]? = some v → ∃ d, ds[i]? = some d ∧ Rp G M H v d
  | _, _, _, _, .nil, e => by simp at e
  | _, _, 0, _, .cons r _, e => by simp at e; subst e; exact ⟨_, rfl, r⟩
  | _, _, i + 1, d, .cons _ t, e => by
    obtain ⟨u, h1, h2⟩ := RpL.getV (i := i) (v := d) t (by simpa using e)
    exact ⟨u, by simpa using h1, h2⟩
theorem RpL.append : ∀ {vs ws : List V} {ds es : List D}, RpL G M H vs ds → RpL G M H ws es → RpL G M H (vs ++ ws) (ds ++ es)
  | _, _, _, _, .nil, s => s
  | _, _, _, _, .cons r t, s => .cons r (RpL.append t s)
theorem RpL.take : ∀ {vs : List V} {ds : List D} (n : Nat), RpL G M H vs ds → RpL G M H (vs.take n) (ds.take n)
  | _, _, 0, _ => .nil
  | _, _, _ + 1, .nil => .nil
  | _, _, n + 1, .cons r t => .cons r (RpL.take n t)
theorem RpL.drop : ∀ {vs : List V} {ds : List D} (n : Nat), RpL G M H vs ds → RpL G M H (vs.drop n) (ds.drop n)
  | _, _, 0, r => r
  | _, _, _ + 1, .nil => .nil
  | _, _, n + 1, .cons _ t => RpL.drop n t
theorem RpL.set {v : V} {d : D} (r : Rp G M H v d) : ∀ {vs : List V} {ds : List D} (i : Nat), RpL G M H vs ds → RpL G M H (vs.set i v) (ds.set i d)
  | _, _, _, .nil => .nil
  | _, _, 0, .cons _ t => .cons r t
  | _, _, i + 1, .cons q t => .cons q (RpL.set r i t)
theorem RpL.eraseIdx : ∀ {vs : List V} {ds : List D} (i : Nat), RpL G M H vs ds → RpL G M H (vs.eraseIdx i) (ds.eraseIdx i)
  | _, _, _, .nil => .nil
  | _, _, 0, .cons _ t => t
  | _, _, i + 1, .cons q t => .cons q (RpL.eraseIdx i t)
theorem RpL.one {v : V} {d : D} (r : Rp G M H v d) : RpL G M H [v] [d] := .cons r .nil
theorem RpL.flat {vs : List V} {ds : List D} (r : RpL G M H vs ds) : ∀ k : Nat, RpL G M H (List.replicate k vs).flatten (List.replicate k ds).flatten
  | 0 => .nil
  | k + 1 => by simp only [List.replicate_succ, List.flatten_cons]; exact r.append (RpL.flat r k)
theorem RpL.of : ∀ {vs : List V} {ds : List D}, vs.length = ds.length → (∀ (i : Nat) (v : V) (d : D), vs[i]? = some v → ds[i]? = some d → Rp G M H v d) → RpL G M H vs ds
  | [], [], _, _ => .nil
  | [], _ :: _, e, _ => by simp at e
  | _ :: _, [], e, _ => by simp at e
  | v :: vs, d :: ds, e, h => .cons (h 0 v d rfl rfl) (RpL.of (by simpa using e) fun i a b h1 h2 => h (i + 1) a b (by simpa using h1) (by simpa using h2))
end

/-! ### what changes -/
def CelR (G : Gm) (M : Addr → Prop) (H : Hp) (a : Addr) : D → Prop
  | .lst ds => ∃ vs, H a = some (.lst vs) ∧ vs.length ≤ sizeLine ∧ RpL G M H vs ds
  | .dK ds => ∃ kvs, H a = some (.dK kvs) ∧ kvs.length ≤ sizeLine ∧ kvs.map (·.1) = ds.map (·.1) ∧ RpL G M H (kvs.map (·.2)) (ds.map (·.2))
  | .dT ds => ∃ kvs, H a = some (.dT kvs) ∧ kvs.length ≤ sizeLine ∧ kvs.map (·.1) = ds.map (·.1) ∧ RpL G M H (kvs.map (·.2)) (ds.map (·.2))
  | .ins c ds => ∃ dx fs, ¬ M dx ∧ H a = some (.ins (G.cls c) dx fs) ∧ H dx = some (.own a) ∧ fs.map (·.1) = ds.map (·.1) ∧ RpL G M H (fs.map (·.2)) (ds.map (·.2))
  | .lk (.dK ds) => ∃ od kvs, H a = some (.frz od (.dK kvs)) ∧ kvs.length ≤ sizeLine ∧ kvs.map (·.1) = ds.map (·.1) ∧ RpL G M H (kvs.map (·.2)) (ds.map (·.2))
  | .lk (.dT ds) => ∃ od kvs, H a = some (.frz od (.dT kvs)) ∧ kvs.length ≤ sizeLine ∧ kvs.map (·.1) = ds.map (·.1) ∧ RpL G M H (kvs.map (·.2)) (ds.map (·.2))
  | _ => False
theorem CelR.lk_inv {G : Gm} {M : Addr → Prop} {H : Hp} {a : Addr} {d : D} (h : CelR G M H a (.lk d)) : (∃ ds, d = .dK ds) ∨ ∃ ds, d = .dT ds := by
  cases d with
  | dK ds => exact .inl ⟨_, rfl⟩
  | dT ds => exact .inr ⟨_, rfl⟩
  | _ => exact h.elim
theorem CelR.keeps {G : Gm} {M M' : Addr → Prop} {H H' : Hp} {a : Addr} {d : D} (k : Keeps M M' H H') (ha : ∀ u, H a = some u → H' a = some u) (h : CelR G M H a d) : CelR G M' H' a d := by
  cases d with
  | lst ds => obtain ⟨vs, h1, h2, h3⟩ := h; exact ⟨vs, ha _ h1, h2, h3.keeps k⟩
  | dK ds => obtain ⟨vs, h1, h2, h3, h4⟩ := h; exact ⟨vs, ha _ h1, h2, h3, h4.keeps k⟩
  | dT ds => obtain ⟨vs, h1, h2, h3, h4⟩ := h; exact ⟨vs, ha _ h1, h2, h3, h4.keeps k⟩
  | ins c ds => obtain ⟨dx, fs, n, h1, h2, h3, h4⟩ := h; exact ⟨dx, fs, k.msk _ n (by rw [h2]; simp), ha _ h1, k.keep _ _ n h2, h3, h4.keeps k⟩
  | lk d =>
    rcases h.lk_inv with ⟨ds, rfl⟩ | ⟨ds, rfl⟩
    · obtain ⟨od, vs, h1, h2, h3, h4⟩ := h; exact ⟨od, vs, ha _ h1, h2, h3, h4.keeps k⟩
    · obtain ⟨od, vs, h1, h2, h3, h4⟩ := h; exact ⟨od, vs, ha _ h1, h2, h3, h4.keeps k⟩
  | non => exact h.elim
  | bl b => exact h.elim
  | int b => exact h.elim
  | str b => exact h.elim
  | tup b => exact h.elim
  | scr b => exact h.elim
  | kt b => exact h.elim
theorem CelR.live {G : Gm} {M : Addr → Prop} {H : Hp} {a : Addr} {d : D} (h : CelR G M H a d) : H a ≠ none := by
  cases d with
  | lst ds => obtain ⟨vs, h1, _⟩ := h; rw [h1]; simp
  | dK ds => obtain ⟨vs, h1, _⟩ := h; rw [h1]; simp
  | dT ds => obtain ⟨vs, h1, _⟩ := h; rw [h1]; simp
  | ins c ds => obtain ⟨dx, fs, _, h1, _⟩ := h; rw [h1]; simp
  | lk d =>
    rcases h.lk_inv with ⟨ds, rfl⟩ | ⟨ds, rfl⟩
    · obtain ⟨od, vs, h1, _⟩ := h; rw [h1]; simp
    · obtain ⟨od, vs, h1, _⟩ := h; rw [h1]; simp
  | non => exact h.elim
  | bl b => exact h.elim
  | int b => exact h.elim
  | str b => exact h.elim
  | tup b => exact h.elim
  | scr b => exact h.elim
  | kt b => exact h.elim
/-- what was held changes no more -/
theorem CelR.rp {G : Gm} {M : Addr → Prop} {H : Hp} {a : Addr} {d : D} (h : CelR G M H a d) (n : ¬ M a) : Rp G M H (.ref a) (unlk d) := by
  cases d with
  | lk d =>
    rcases h.lk_inv with ⟨ds, rfl⟩ | ⟨ds, rfl⟩
    · obtain ⟨od, vs, h1, h2, h3, h4⟩ := h; exact .dK n (.inr ⟨od, h1⟩) h2 h3 h4
    · obtain ⟨od, vs, h1, h2, h3, h4⟩ := h; exact .dT n (.inr ⟨od, h1⟩) h2 h3 h4
  | lst ds => obtain ⟨vs, h1, h2, h3⟩ := h; exact .lst n (.inl h1) h2 h3
  | dK ds => obtain ⟨vs, h1, h2, h3, h4⟩ := h; exact .dK n (.inl h1) h2 h3 h4
  | dT ds => obtain ⟨vs, h1, h2, h3, h4⟩ := h; exact .dT n (.inl h1) h2 h3 h4
  | ins c ds => obtain ⟨dx, fs, m, h1, h2, h3, h4⟩ := h; exact .ins n m h1 h2 h3 h4
  | non => exact h.elim
  | bl b => exact h.elim
  | int b => exact h.elim
  | str b => exact h.elim
  | tup b => exact h.elim
  | scr b => exact h.elim
  | kt b => exact h.elim

structure StR (G : Gm) (φ : List Addr) (M : Addr → Prop) (H : Hp) (C : Store) : Prop where
  len : φ.length = C.length
  nd : φ.Nodup
  sub : ∀ a ∈ φ, M a
  live : ∀ a, M a → H a ≠ none
  cel : ∀ (n : Nat) (d : D) (a : Addr), C[n]? = some d → φ[n]? = some a → CelR G M H a d
def SvR (G : Gm) (φ : List Addr) (M : Addr → Prop) (H : Hp) (v : V) : Sv → Prop
  | .dat d => Rp G M H v d
  | .cel n => ∃ a, φ[n]? = some a ∧ v = .ref a
inductive SvsR (G : Gm) (φ : List Addr) (M : Addr → Prop) (H : Hp) : List V → List Sv → Prop
  | nil : SvsR G φ M H [] []
  | cons {v : V} {s : Sv} {vs : List V} {ss : List Sv} : SvR G φ M H v s → SvsR G φ M H vs ss → SvsR G φ M H (v :: vs) (s :: ss)
structure EnvR (G : Gm) (φ : List Addr) (M : Addr → Prop) (H : Hp) (σ : L2.St) (ρ : Env) : Prop where
  len : ρ.length = σ.length
  at_ : ∀ (i : Nat) (s : Sv), ρ[i]? = some (some s) → ∃ v, σ[i]? = some (some v) ∧ SvR G φ M H v s

/-- from one state of heap, mask and things that change to a later one -/
structure Grow (φ : List Addr) (M : Addr → Prop) (H : Hp) (φ' : List Addr) (M' : Addr → Prop) (H' : Hp) : Prop where
  pre : ∃ ps, φ' = φ ++ ps ∧ ∀ p ∈ ps, H p = none
  keep : ∀ a u, H a = some u → a ∉ φ → H' a = some u
  live : ∀ a, H a ≠ none → H' a ≠ none
  up : ∀ a, M a → M' a
  new : ∀ a, M' a → M a ∨ H a = none
section
variable {G : Gm} {φ φ' φ'' : List Addr} {M M' M'' : Addr → Prop} {H H' H'' : Hp}
theorem Grow.refl : Grow φ M H φ M H := ⟨⟨[], by simp, fun _ h => by cases h⟩, fun _ _ h _ => h, fun _ h => h, fun _ h => h, fun _ h => .inl h⟩
theorem Grow.trans (a : Grow φ M H φ' M' H') (b : Grow φ' M' H' φ'' M'' H'') : Grow φ M H φ'' M'' H'' where
  pre := by
    obtain ⟨ps, e1, h1⟩ := a.pre
    obtain ⟨qs, e2, h2⟩ := b.pre
    refine ⟨ps ++ qs, by rw [e2, e1, List.append_assoc], fun p hp => ?_⟩
    rcases List.mem_append.mp hp with z | z
    · exact h1 p z
    · exact Classical.byContradiction fun w => a.live p w (h2 p z)
  keep := fun c u e hc => b.keep c u (a.keep c u e hc) fun z => by
    obtain ⟨ps, e1, h1⟩ := a.pre
    rw [e1] at z
    rcases List.mem_append.mp z with z | z
    · exact hc z
    · rw [h1 c z] at e; cases e
  live := fun c h => b.live c (a.live c h)
  up := fun c h => b.up c (a.up c h)
  new := fun c h => by
    rcases b.new c h with h | h
    · exact a.new c h
    · exact .inr (Classical.byContradiction fun z => a.live c z h)
theorem Grow.keeps (g : Grow φ M H φ' M' H') (sub : ∀ a ∈ φ, M a) : Keeps M M' H H' :=
  ⟨fun a n l z => by
    rcases g.new a z with z | z
    · exact n z
    · exact l z, fun a u n e => g.keep a u e fun z => n (sub a z)⟩
/-- a new object -/
theorem Grow.laid {p : Addr} {o : HO} (hp : H p = none) : Grow φ M H φ M (upd H p o) :=
  ⟨⟨[], by simp, fun _ h => by cases h⟩, fun a u e _ => by rw [upd_ne (ne_of_none e hp)]; exact e, fun a h => by
    by_cases z : a = p
    · subst z; rw [upd_same]; simp
    · rw [upd_ne z]; exact h, fun _ h => h, fun _ h => .inl h⟩
/-- one of ours is changed -/
theorem Grow.wrote {p : Addr} {o : HO} (hp : p ∈ φ) : Grow φ M H φ M (upd H p o) :=
  ⟨⟨[], by simp, fun _ h => by cases h⟩, fun a u e ha => by rw [upd_ne (fun z => ha (by rw [z]; exact hp))]; exact e, fun a h => by
    by_cases z : a = p
    · subst z; rw [upd_same]; simp
    · rw [upd_ne z]; exact h, fun _ h => h, fun _ h => .inl h⟩
theorem Grow.at_ (g : Grow φ M H φ' M' H') {n : Nat} {a : Addr} (h : φ[n]? = some a) : φ'[n]? = some a := by
  obtain ⟨ps, e, _⟩ := g.pre
  rw [e, List.getElem?_append_left (List.getElem?_eq_some_iff.mp h).1]
  exact h
theorem SvR.keeps {v : V} {s : Sv} (h : SvR G φ M H v s) (k : Keeps M M' H H') (hφ : ∀ (n : Nat) (a : Addr), s = .cel n → φ[n]? = some a → φ'[n]? = some a) : SvR G φ' M' H' v s := by
  cases s with
  | dat d => exact Rp.keeps k h
  | cel n => obtain ⟨a, h1, h2⟩ := h; exact ⟨a, hφ n a rfl h1, h2⟩
theorem SvR.grow {v : V} {s : Sv} (h : SvR G φ M H v s) (g : Grow φ M H φ' M' H') (sub : ∀ a ∈ φ, M a) : SvR G φ' M' H' v s := h.keeps (g.keeps sub) fun _ _ _ e => g.at_ e
theorem SvsR.grow : ∀ {vs : List V} {ss : List Sv}, SvsR G φ M H vs ss → Grow φ M H φ' M' H' → (∀ a ∈ φ, M a) → SvsR G φ' M' H' vs ss
  | _, _, .nil, _, _ => .nil
  | _, _, .cons r t, g, s => .cons (SvR.grow r g s) (SvsR.grow t g s)
theorem EnvR.grow {σ : L2.St} {ρ : Env} (e : EnvR G φ M H σ ρ) (g : Grow φ M H φ' M' H') (sub : ∀ a ∈ φ, M a) : EnvR G φ' M' H' σ ρ :=
  ⟨e.len, fun i s h => let ⟨v, h1, h2⟩ := e.at_ i s h; ⟨v, h1, h2.grow g sub⟩⟩
theorem SvsR.length : ∀ {vs : List V} {ss : List Sv}, SvsR G φ M H vs ss → vs.length = ss.length
  | _, _, .nil => rfl
  | _, _, .cons _ t => by simp [SvsR.length t]
theorem SvsR.get : ∀ {vs : List V} {ss : List Sv} {i : Nat} {s : Sv}, SvsR G φ M H vs ss → ss[i]? = some s → ∃ v, vs[i]? = some v ∧ SvR G φ M H v s
  | _, _, _, _, .nil, e => by simp at e
  | _, _, 0, _, .cons r _, e => by simp at e; subst e; exact ⟨_, rfl, r⟩
  | _, _, i + 1, d, .cons _ t, e => by
    obtain ⟨u, h1, h2⟩ := SvsR.get (i := i) (s := d) t (by simpa using e)
    exact ⟨u, by simpa using h1, h2⟩
theorem SvsR.dats : ∀ {vs : List V} {ss : List Sv} {ds : List D}, SvsR G φ M H vs ss → dats ss = some ds → RpL G M H vs ds
  | _, _, _, .nil, e => by simp [DX.dats] at e; subst e; exact .nil
  | _, .dat d :: ss, ds, .cons r t, e => by
    unfold DX.dats at e
    obtain ⟨es, h, e⟩ := bn1_i e
    cases e
    exact .cons r (SvsR.dats t h)
  | _, .cel n :: ss, ds, .cons r t, e => by simp [DX.dats] at e

/-- a state in which all of ours stand where they stood -/
theorem StR.laid {C : Store} {p : Addr} {o : HO} (s : StR G φ M H C) (hp : H p = none) : StR G φ M (upd H p o) C := by
  have g : Grow φ M H φ M (upd H p o) := Grow.laid hp
  refine ⟨s.len, s.nd, s.sub, fun a h => g.live a (s.live a h), fun n d a h1 h2 => (s.cel n d a h1 h2).keeps (g.keeps s.sub) fun u e => ?_⟩
  rw [upd_ne (ne_of_none e hp)]; exact e
theorem StR.nm {C : Store} {p : Addr} (s : StR G φ M H C) (hp : H p = none) : ¬ M p := fun z => s.live p z hp
/-- what a slot's value stands for, as it is now -/
theorem StR.see_rd {C : Store} {v : V} {x : Sv} {d : D} (s : StR G φ M H C) (r : SvR G φ M H v x) (e : see C x = some d) :
    (x = .dat d ∧ Rp G M H v d) ∨ ∃ n a c, x = .cel n ∧ v = .ref a ∧ φ[n]? = some a ∧ C[n]? = some c ∧ d = unlk c ∧ CelR G M H a c := by
  cases x with
  | dat d' => cases e; exact .inl ⟨rfl, r⟩
  | cel n =>
    obtain ⟨a, h1, h2⟩ := r
    have e' : (C[n]?).map unlk = some d := e
    cases hc : C[n]? with
    | none => rw [hc] at e'; cases e'
    | some c =>
      rw [hc] at e'
      cases e'
      exact .inr ⟨n, a, c, rfl, h2, h1, hc, rfl, s.cel n c a hc h1⟩
/-- for reading alone: whatever the mask -/
theorem StR.see_rp {C : Store} {v : V} {x : Sv} {d : D} (s : StR G φ M H C) (r : SvR G φ M H v x) (e : see C x = some d) : Rp G (fun _ => False) H v d := by
  have k : Keeps M (fun _ => False) H H := ⟨fun _ _ _ z => z, fun _ _ _ e => e⟩
  rcases s.see_rd r e with ⟨_, h⟩ | ⟨n, a, c, _, rfl, _, _, rfl, h⟩
  · exact h.keeps k
  · exact (h.keeps k fun _ e => e).rp fun z => z
/-- a smaller mask -/
theorem StR.less {C : Store} (s : StR G φ M' H C) (up : ∀ a, M a → M' a) (sub : ∀ a ∈ φ, M a) : StR G φ M H C :=
  ⟨s.len, s.nd, sub, fun a h => s.live a (up a h), fun n d a h1 h2 => (s.cel n d a h1 h2).keeps ⟨fun a n _ z => n (up a z), fun _ _ _ e => e⟩ fun _ e => e⟩
/-- a new object, masked at once -/
theorem keepsM {p : Addr} {o : HO} (hp : H p = none) : Keeps M (fun a => M a ∨ a = p) H (upd H p o) :=
  ⟨fun a n l z => by
    rcases z with z | z
    · exact n z
    · rw [z] at l; exact l hp, fun a u n e => by rw [upd_ne (ne_of_none e hp)]; exact e⟩
theorem StR.laidM {C : Store} {p : Addr} {o : HO} (s : StR G φ M H C) (hp : H p = none) : StR G φ (fun a => M a ∨ a = p) (upd H p o) C :=
  ⟨s.len, s.nd, fun a h => .inl (s.sub a h), fun a h => by
    by_cases z : a = p
    · subst z; rw [upd_same]; simp
    · rw [upd_ne z]
      rcases h with h | h
      · exact s.live a h
      · exact absurd h z, fun n d a h1 h2 => (s.cel n d a h1 h2).keeps (keepsM hp) fun u e => by rw [upd_ne (ne_of_none e hp)]; exact e⟩
/-- what is masked and none of ours is changed -/
theorem keepsW {p : Addr} {o : HO} (hp : M p) : Keeps M M H (upd H p o) := ⟨fun a n _ => n, fun a u n e => by rw [upd_ne (fun z => n (by rw [z]; exact hp))]; exact e⟩
theorem StR.wroteM {C : Store} {p : Addr} {o : HO} (s : StR G φ M H C) (hp : M p) (hn : p ∉ φ) : StR G φ M (upd H p o) C :=
  ⟨s.len, s.nd, s.sub, fun a h => by
    by_cases z : a = p
    · subst z; rw [upd_same]; simp
    · rw [upd_ne z]; exact s.live a h, fun n d a h1 h2 => (s.cel n d a h1 h2).keeps (keepsW hp) fun u e => by
      rw [upd_ne (fun z => hn (by rw [← z]; exact List.mem_of_getElem? h2))]; exact e⟩
end
end DX

/-! DSim: readings of expressions, and what they reckon. -/
namespace DX
open PySem PySem.Spec L2

/-- an expression's change: the mask and the addresses stay -/
structure Ext (φ : List Addr) (H H' : Hp) : Prop where
  keep : ∀ a u, H a = some u → a ∉ φ → H' a = some u
  live : ∀ a, H a ≠ none → H' a ≠ none
section
variable {G : Gm} {φ φ' : List Addr} {M M' : Addr → Prop} {H H' H'' : Hp} {C C' : Store} {σ : L2.St} {ρ : Env}
theorem Ext.refl : Ext φ H H := ⟨fun _ _ h _ => h, fun _ h => h⟩
theorem Ext.trans (a : Ext φ H H') (b : Ext φ H' H'') : Ext φ H H'' := ⟨fun c u e n => b.keep c u (a.keep c u e n) n, fun c h => b.live c (a.live c h)⟩
theorem Ext.grow (e : Ext φ H H') : Grow φ M H φ M H' := ⟨⟨[], by simp, fun _ h => by cases h⟩, e.keep, e.live, fun _ h => h, fun _ h => .inl h⟩
theorem Ext.laid {p : Addr} {o : HO} (hp : H p = none) : Ext φ H (upd H p o) := let g : Grow φ (fun _ => False) H φ (fun _ => False) (upd H p o) := Grow.laid hp; ⟨g.keep, g.live⟩
theorem Ext.wrote {p : Addr} {o : HO} (hp : p ∈ φ) : Ext φ H (upd H p o) := let g : Grow φ (fun _ => False) H φ (fun _ => False) (upd H p o) := Grow.wrote hp; ⟨g.keep, g.live⟩
theorem Ext.keeps (e : Ext φ H H') (sub : ∀ a ∈ φ, M a) : Keeps M M H H' := e.grow.keeps sub
theorem Ext.none_ (e : Ext φ H H') {p : Addr} (h : H' p = none) : H p = none := Classical.byContradiction fun z => e.live p z h
theorem EnvR.ext (r : EnvR G φ M H σ ρ) (e : Ext φ H H') (sub : ∀ a ∈ φ, M a) : EnvR G φ M H' σ ρ := r.grow e.grow sub
theorem SvR.ext {v : V} {s : Sv} (r : SvR G φ M H v s) (e : Ext φ H H') (sub : ∀ a ∈ φ, M a) : SvR G φ M H' v s := r.grow e.grow sub
end

def SimE (G : Gm) (t : TE) (f : SE) : Prop :=
  ∀ φ M H C σ ρ s C', EnvR G φ M H σ ρ → StR G φ M H C → f ρ C = some (s, C') → ∀ Q : VK, (∀ v H', Ext φ H H' → StR G φ M H' C' → SvR G φ M H' v s → Q v H') → t σ H Q
def SimT (G : Gm) (t : TT) (f : ST) : Prop :=
  ∀ φ M H C σ ρ b C', EnvR G φ M H σ ρ → StR G φ M H C → f ρ C = some (b, C') → ∀ Q : Bool → Hp → Prop, (∀ H', Ext φ H H' → StR G φ M H' C' → Q b H') → t σ H Q
def SimA (G : Gm) (t : TA) (f : SA) : Prop :=
  ∀ φ M H C σ ρ ss C', EnvR G φ M H σ ρ → StR G φ M H C → f ρ C = some (ss, C') → ∀ Q : List V → Hp → Prop, (∀ vs H', Ext φ H H' → StR G φ M H' C' → SvsR G φ M H' vs ss → Q vs H') → t σ H Q
/-- a new object, that nothing else knows -/
def SimN (G : Gm) (t : TE) (f : SN) : Prop :=
  ∀ φ M H C σ ρ d C', EnvR G φ M H σ ρ → StR G φ M H C → f ρ C = some (d, C') → ∀ Q : VK, (∀ p H', H p = none → Ext φ H H' → StR G φ (fun a => M a ∨ a = p) H' C' → CelR G (fun a => M a ∨ a = p) H' p d → Q (.ref p) H') → t σ H Q

section
variable {G : Gm}
theorem unlk_of {d : D} (h : ∀ e, d ≠ .lk e) : unlk d = d := by
  cases d <;> first | rfl | exact absurd rfl (h _)
theorem SimN.e {t : TE} {f : SN} (h : SimN G t f) : SimE G t (eFr f) := by
  intro φ M H C σ ρ s C' he hs e Q hQ
  obtain ⟨d, C1, h1, e⟩ := bnd_i e
  obtain ⟨nl, e⟩ := gd_i e
  cases e
  refine h φ M H C σ ρ d C' he hs h1 Q fun p H' hp x hs' hc => hQ _ _ x (hs'.less (fun _ h => .inl h) hs.sub) ?_
  have k : Keeps (fun a => M a ∨ a = p) M H' H' := ⟨fun a n _ z => n (.inl z), fun _ _ _ e => e⟩
  have r := (hc.keeps k fun _ e => e).rp (hs.nm hp)
  rw [unlk_of fun x z => by subst z; cases nl] at r
  exact r

/-! ### names, constants -/
theorem sim_var {i : Nat} : SimE G (tVar i) (eVar i) := by
  intro φ M H C σ ρ s C' he hs e Q hQ
  obtain ⟨v, h1, e⟩ := bn1_i e
  cases e
  have h2 : ρ[i]? = some (some s) := by
    cases z : ρ[i]? with
    | none => rw [z] at h1; cases h1
    | some o => rw [z] at h1; cases o with
      | none => cases h1
      | some x => cases h1; rfl
  obtain ⟨w, h3, h4⟩ := he.at_ i s h2
  exact ⟨w, h3, hQ w H Ext.refl hs h4⟩
theorem sim_c {v : V} {d : D} (h : ∀ M H, Rp G M H v d) : SimE G (tC v) (eC d) := by
  intro φ M H C σ ρ s C' he hs e Q hQ
  cases e
  exact hQ v H Ext.refl hs (h M H)
theorem sim_int {i : Int} : SimE G (tC (.int i)) (eC (.int i)) := sim_c fun _ _ => .int i
theorem sim_bl {i : Bool} : SimE G (tC (.bl i)) (eC (.bl i)) := sim_c fun _ _ => .bl i
theorem sim_str {i : Str} : SimE G (tC (.str i)) (eC (.str i)) := sim_c fun _ _ => .str i
theorem sim_non : SimE G (tC .non) (eC .non) := sim_c fun _ _ => .non

/-! ### two values, one value: what a rule of values asks -/
/-- a rule over two values: what it reckons of two data -/
def Sim2 (G : Gm) (r : R2) (g : D → D → Option D) : Prop :=
  ∀ φ M H C x y d e z, StR G φ M H C → Rp G (fun _ => False) H x d → Rp G (fun _ => False) H y e → g d e = some z → ∀ Q : VK, (∀ v H', Ext φ H H' → StR G φ M H' C → Rp G M H' v z → Q v H') → r x y H Q
/-- .. where a part of the data is handed on -/
def Sim2M (G : Gm) (r : R2) (g : D → D → Option D) : Prop :=
  ∀ φ M H C x y sx sy d e z, StR G φ M H C → SvR G φ M H x sx → SvR G φ M H y sy → see C sx = some d → see C sy = some e → g d e = some z → ∀ Q : VK, (∀ v H', Ext φ H H' → StR G φ M H' C → Rp G M H' v z → Q v H') → r x y H Q
theorem Sim2.m {r : R2} {g : D → D → Option D} (h : Sim2 G r g) : Sim2M G r g := by
  intro φ M H C x y sx sy d e z hs rx ry ex ey hg Q hQ
  exact h φ M H C x y d e z hs (hs.see_rp rx ex) (hs.see_rp ry ey) hg Q hQ
theorem sim_op {r : R2} {ta tb : TE} {f g : SE} {k : D → D → Option D} (hr : Sim2M G r k) (ha : SimE G ta f) (hb : SimE G tb g) : SimE G (tOp r ta tb) (eBin k f g) := by
  intro φ M H C σ ρ s C' he hs e Q hQ
  obtain ⟨v, C1, h1, e⟩ := bnd_i e
  obtain ⟨w, C2, h2, e⟩ := bnd_i e
  obtain ⟨d, h3, e⟩ := bn1_i e
  obtain ⟨d', h4, e⟩ := bn1_i e
  obtain ⟨z, h5, e⟩ := bn1_i e
  cases e
  refine ha φ M H C σ ρ v C1 he hs h1 _ fun x H1 x1 s1 r1 => ?_
  refine hb φ M H1 C1 σ ρ w C' (he.ext x1 hs.sub) s1 h2 _ fun y H2 x2 s2 r2 => ?_
  exact hr φ M H2 C' x y v w d d' z s2 (r1.ext x2 hs.sub) r2 h3 h4 h5 Q fun u H3 x3 s3 r3 => hQ u H3 ((x1.trans x2).trans x3) s3 r3
def Sim1 (G : Gm) (r : V → Hp → VK → Prop) (g : D → Option D) : Prop :=
  ∀ φ M H C x sx d z, StR G φ M H C → SvR G φ M H x sx → see C sx = some d → g d = some z → ∀ Q : VK, (∀ v H', Ext φ H H' → StR G φ M H' C → Rp G M H' v z → Q v H') → r x H Q
theorem sim_un {r : V → Hp → VK → Prop} {ta : TE} {f : SE} {k : D → Option D} (hr : Sim1 G r k) (ha : SimE G ta f) : SimE G (tUn r ta) (eUn k f) := by
  intro φ M H C σ ρ s C' he hs e Q hQ
  obtain ⟨v, C1, h1, e⟩ := bnd_i e
  obtain ⟨d, h2, e⟩ := bn1_i e
  obtain ⟨z, h3, e⟩ := bn1_i e
  cases e
  refine ha φ M H C σ ρ v C' he hs h1 _ fun x H1 x1 s1 r1 => ?_
  exact hr φ M H1 C' x v d z s1 r1 h2 h3 Q fun u H3 x3 s3 r3 => hQ u H3 (x1.trans x3) s3 r3

/-! ### arguments -/
theorem sim_anil : SimA G tNil aNil := by
  intro φ M H C σ ρ ss C' he hs e Q hQ
  cases e
  exact hQ [] H Ext.refl hs .nil
theorem sim_acons {ta : TE} {tr : TA} {f : SE} {g : SA} (ha : SimE G ta f) (hr : SimA G tr g) : SimA G (tCons ta tr) (aCons f g) := by
  intro φ M H C σ ρ ss C' he hs e Q hQ
  obtain ⟨v, C1, h1, e⟩ := bnd_i e
  obtain ⟨vs, C2, h2, e⟩ := bnd_i e
  cases e
  refine ha φ M H C σ ρ v C1 he hs h1 _ fun x H1 x1 s1 r1 => ?_
  refine hr φ M H1 C1 σ ρ vs C' (he.ext x1 hs.sub) s1 h2 _ fun ys H2 x2 s2 r2 => ?_
  exact hQ _ H2 (x1.trans x2) s2 (.cons (r1.ext x2 hs.sub) r2)
/-- a built-in by values -/
def Sim1s (G : Gm) (r : List V → Hp → VK → Prop) (g : List D → Option D) : Prop :=
  ∀ φ M H C xs ss ds z, StR G φ M H C → SvsR G φ M H xs ss → sees C ss = some ds → g ds = some z → ∀ Q : VK, (∀ v H', Ext φ H H' → StR G φ M H' C → Rp G M H' v z → Q v H') → r xs H Q
theorem sim_b {r : List V → Hp → VK → Prop} {ta : TA} {a : SA} {k : List D → Option D} (hr : Sim1s G r k) (ha : SimA G ta a) : SimE G (tCB r ta) (eB k a) := by
  intro φ M H C σ ρ s C' he hs e Q hQ
  obtain ⟨ss, C1, h1, e⟩ := bnd_i e
  obtain ⟨ds, h2, e⟩ := bn1_i e
  obtain ⟨z, h3, e⟩ := bn1_i e
  cases e
  refine ha φ M H C σ ρ ss C' he hs h1 _ fun x H1 x1 s1 r1 => ?_
  exact hr φ M H1 C' x ss ds z s1 r1 h2 h3 Q fun u H3 x3 s3 r3 => hQ u H3 (x1.trans x3) s3 r3

/-! ### displays -/
theorem CelR.newL {φ : List Addr} {M : Addr → Prop} {H : Hp} {C : Store} {p : Addr} {vs : List V} {ds : List D} (hs : StR G φ M H C) (hp : H p = none) (l : vs.length ≤ sizeLine) (r : RpL G M H vs ds) :
    CelR G (fun a => M a ∨ a = p) (upd H p (.lst vs)) p (.lst ds) := by
  refine ⟨vs, upd_same, l, r.keeps ⟨fun a n h z => ?_, fun a u _ e => ?_⟩⟩
  · rcases z with z | z
    · exact n z
    · rw [z] at h; exact h hp
  · rw [upd_ne (ne_of_none e hp)]; exact e
theorem small_line {n : Nat} (h : n ≤ 1000) : n ≤ sizeLine := Nat.le_trans h (by decide)
theorem sim_nlst {ta : TA} {a : SA} (ha : SimA G ta a) : SimN G (tLst ta) (nLst a) := by
  intro φ M H C σ ρ d C' he hs e Q hQ
  obtain ⟨ss, C1, h1, e⟩ := bnd_i e
  obtain ⟨ds, h2, e⟩ := bn1_i e
  obtain ⟨h3, e⟩ := gd_i e
  cases e
  refine ha φ M H C σ ρ ss C' he hs h1 _ fun xs H1 x1 s1 r1 => ?_
  have r2 := r1.dats h2
  have l := r2.length
  refine ⟨small_line (by omega), fun p hp => ?_⟩
  exact hQ p _ (x1.none_ hp) (x1.trans (Ext.laid hp)) (s1.laidM hp) (CelR.newL s1 hp (small_line (by omega)) r2)
theorem sim_tup {ta : TA} {a : SA} (ha : SimA G ta a) : SimE G (tTup ta) (eTup a) := by
  intro φ M H C σ ρ d C' he hs e Q hQ
  obtain ⟨ss, C1, h1, e⟩ := bnd_i e
  obtain ⟨ds, h2, e⟩ := bn1_i e
  obtain ⟨h3, e⟩ := gd_i e
  cases e
  refine ha φ M H C σ ρ ss C' he hs h1 _ fun xs H1 x1 s1 r1 => ?_
  have r2 := r1.dats h2
  have l := r2.length
  refine ⟨small_line (by omega), fun p hp => ?_⟩
  have x2 : Ext φ H1 (upd H1 p (.tup xs)) := Ext.laid hp
  exact hQ _ _ (x1.trans x2) (s1.laid hp) (.tup ⟨s1.nm hp, upd_same⟩ (small_line (by omega)) (r2.keeps (x2.keeps s1.sub)))
end
end DX

/-! DOps: operators over data. -/
namespace DX
open PySem PySem.Spec L2

section
variable {G : Gm} {φ : List Addr} {M : Addr → Prop} {H : Hp} {C : Store} {x : V} {s : Sv}
abbrev M0 : Addr → Prop := fun _ => False
theorem StR.seeL {ds : List D} (st : StR G φ M H C) (r : SvR G φ M H x s) (e : see C s = some (.lst ds)) : ∃ a vs, x = .ref a ∧ Rd H a (.lst vs) ∧ vs.length ≤ sizeLine ∧ RpL G M H vs ds := by
  rcases st.see_rd r e with ⟨_, h⟩ | ⟨n, a, c, _, rfl, _, _, hu, h⟩
  · cases h with
    | lst n h l r => exact ⟨_, _, rfl, h, l, r⟩
  · cases c with
    | lst ds' =>
      cases hu
      obtain ⟨vs, h1, h2, h3⟩ := h
      exact ⟨a, vs, rfl, .inl h1, h2, h3⟩
    | lk d =>
      have hu' : D.lst ds = d := hu
      subst hu'
      exact h.elim
    | _ => cases hu
theorem StR.seeT {ds : List D} (st : StR G φ M H C) (r : SvR G φ M H x s) (e : see C s = some (.tup ds)) : ∃ a vs, x = .ref a ∧ TupAt G M H a vs ∧ vs.length ≤ sizeLine ∧ RpL G M H vs ds := by
  rcases st.see_rd r e with ⟨_, h⟩ | ⟨n, a, c, _, rfl, _, _, hu, h⟩
  · cases h with
    | tup h l r => exact ⟨_, _, rfl, h, l, r⟩
  · cases c with
    | lk d =>
      have hu' : D.tup ds = d := hu
      subst hu'
      exact h.elim
    | tup _ => exact h.elim
    | _ => cases hu
theorem Rp.intI {i : Int} (h : Rp G M H x (.int i)) : x = .int i := by cases h; rfl
theorem Rp.strI {i : Str} (h : Rp G M H x (.str i)) : x = .str i := by cases h; rfl
theorem Rp.blI {i : Bool} (h : Rp G M H x (.bl i)) : x = .bl i := by cases h; rfl
theorem Rp.nonI (h : Rp G M H x .non) : x = .non := by cases h; rfl
theorem RpL.ints : ∀ {vs : List V} {ns : List Int}, RpL G M H vs (ns.map D.int) → vs = ns.map V.int
  | _, [], h => by cases h; rfl
  | _, n :: ns, h => by cases h with | cons r t => rw [r.intI, RpL.ints t]; rfl
theorem RpL.strs : ∀ {vs : List V} {ns : List Str}, RpL G M H vs (ns.map D.str) → vs = ns.map V.str
  | _, [], h => by cases h; rfl
  | _, n :: ns, h => by cases h with | cons r t => rw [r.strI, RpL.strs t]; rfl
theorem RpL.bls : ∀ {vs : List V} {ns : List Bool}, RpL G M H vs (ns.map D.bl) → vs = ns.map V.bl
  | _, [], h => by cases h; rfl
  | _, n :: ns, h => by cases h with | cons r t => rw [r.blI, RpL.bls t]; rfl
end

/-! ### + -/
def rCatG : R2 := fun x y H Q => ∃ l b xs zs, x = .ref l ∧ y = .ref b ∧ Rd H l (.lst xs) ∧ Rd H b (.lst zs) ∧ xs.length + zs.length ≤ sizeLine ∧ ∀ p, H p = none → Q (.ref p) (upd H p (.lst (xs ++ zs)))
theorem op_catG {X : Cx} : OpR X (binaryOp .Add) rCatG := by
  intro pins s σ H x y v u Q I rx ry h
  obtain ⟨l, b, xs, zs, rfl, rfl, hH, hB, hz, q⟩ := h
  cases rx
  cases ry
  obtain ⟨z, its, n, r, e⟩ := hH.ok I.hok
  obtain ⟨z2, its2, n2, r2, e2⟩ := hB.ok I.hok
  have l1 := r.length
  have l2 := r2.length
  refine PySem.P.add_list e e2 ?_ (by rw [List.size_toArray, List.size_toArray]; omega)
  have ea : its.toArray ++ its2.toArray = (its ++ its2).toArray := by simp
  rw [ea]
  exact ⟨.ref _, _, I.lnew (t' := s.toks) (r.append r2) (by rw [List.length_append]; omega), rfl, q _ I.fresh⟩
def rAdd0 (K : PySem.W.Frag) : R2 := fun x y H Q =>
  (∃ i j, x = .int i ∧ y = .int j ∧ Q (.int (i + j)) H) ∨ (∃ i j, x = .str i ∧ y = .str j ∧ i.length + j.length ≤ sizeLine ∧ Q (.str (i ++ j)) H) ∨ rCatA K x y H Q ∨ rCatG x y H Q
theorem op_add0 {X : Cx} : OpR X (binaryOp .Add) (rAdd0 X.K) := op_add.or (op_add_str.or (op_catA.or op_catG))
def dAdd : D → D → Option D
  | .int i, .int j => some (.int (i + j))
  | .str x, .str y => gd (x.length + y.length ≤ sizeLine) (some (.str (x ++ y)))
  | .tup xs, .tup ys => gd (xs.length + ys.length ≤ sizeLine) (some (.tup (xs ++ ys)))
  | .lst xs, .lst ys => gd (xs.length + ys.length ≤ sizeLine) (some (.lst (xs ++ ys)))
  | _, _ => none
def dCat : D → D → Option D
  | .lst xs, .lst ys => gd (xs.length + ys.length ≤ sizeLine) (some (.lst (xs ++ ys)))
  | _, _ => none
section
variable {G : Gm}
theorem sim_cat {φ : List Addr} {M : Addr → Prop} {H : Hp} {C : Store} {x y : V} {sx sy : Sv} {d e z : D} (hs : StR G φ M H C) (rx : SvR G φ M H x sx) (ry : SvR G φ M H y sy) (ex : see C sx = some d) (ey : see C sy = some e) (hg : dCat d e = some z) :
    ∃ vs zs, z = .lst zs ∧ vs.length ≤ sizeLine ∧ RpL G M H vs zs ∧ ∀ Q : VK, (∀ p, H p = none → Q (.ref p) (upd H p (.lst vs))) → rCatG x y H Q := by
  unfold dCat at hg
  split at hg
  · rename_i xs ys
    obtain ⟨hl, hg⟩ := gd_i hg
    cases hg
    obtain ⟨a, vs, rfl, h1, l1, r1⟩ := hs.seeL rx ex
    obtain ⟨b, ws, rfl, h2, l2, r2⟩ := hs.seeL ry ey
    have e1 := r1.length
    have e2 := r2.length
    refine ⟨vs ++ ws, _, rfl, by rw [List.length_append]; omega, r1.append r2, fun Q hQ => ⟨a, b, vs, ws, rfl, rfl, h1, h2, by omega, hQ⟩⟩
  · cases hg
theorem sim2_add : Sim2M G (rAdd0 G.K) dAdd := by
  intro φ M H C x y sx sy d e z hs rx ry ex ey hg Q hQ
  cases d with
  | int i =>
    cases e with
    | int j =>
      cases hg
      have h1 := (hs.see_rp rx ex).intI
      have h2 := (hs.see_rp ry ey).intI
      exact .inl ⟨i, j, h1, h2, hQ _ H Ext.refl hs (.int _)⟩
    | _ => cases hg
  | str i =>
    cases e with
    | str j =>
      obtain ⟨hl, hg⟩ := gd_i hg
      cases hg
      have h1 := (hs.see_rp rx ex).strI
      have h2 := (hs.see_rp ry ey).strI
      exact .inr (.inl ⟨i, j, h1, h2, hl, hQ _ H Ext.refl hs (.str _)⟩)
    | _ => cases hg
  | tup xs =>
    cases e with
    | tup ys =>
      obtain ⟨hl, hg⟩ := gd_i hg
      cases hg
      obtain ⟨a, vs, rfl, h1, l1, r1⟩ := hs.seeT rx ex
      obtain ⟨b, ws, rfl, h2, l2, r2⟩ := hs.seeT ry ey
      have e1 := r1.length
      have e2 := r2.length
      refine .inr (.inr (.inl ⟨a, b, vs, ws, rfl, rfl, h1.sq, h2.sq, by omega, fun z => ?_, fun z z2 => ?_, fun z z2 p hp => ?_⟩))
      · subst z
        cases r1
        exact hQ _ H Ext.refl hs (.tup h2 l2 r2)
      · subst z2
        cases r2
        exact hQ _ H Ext.refl hs (.tup h1 l1 (by simpa using r1))
      · have x2 : Ext φ H (upd H p (.tup (vs ++ ws))) := Ext.laid hp
        exact hQ _ _ x2 (hs.laid hp) (.tup ⟨hs.nm hp, upd_same⟩ (by rw [List.length_append]; omega) ((r1.append r2).keeps (x2.keeps hs.sub)))
    | _ => cases hg
  | lst xs =>
    cases e with
    | lst ys =>
      obtain ⟨vs, zs, rfl, l, r, h⟩ := sim_cat hs rx ry ex ey (show dCat (.lst xs) (.lst ys) = some z from hg)
      refine .inr (.inr (.inr (h Q fun p hp => ?_)))
      have x2 : Ext φ H (upd H p (.lst vs)) := Ext.laid hp
      exact hQ _ _ x2 (hs.laid hp) (.lst (hs.nm hp) (.inl upd_same) l (r.keeps (x2.keeps hs.sub)))
    | _ => cases hg
  | _ => cases hg
theorem sim_add {ta tb : TE} {f g : SE} (ha : SimE G ta f) (hb : SimE G tb g) : SimE G (tOp (rAdd0 G.K) ta tb) (eBin dAdd f g) := sim_op sim2_add ha hb
theorem sim_ncat {ta tb : TE} {f g : SE} (ha : SimE G ta f) (hb : SimE G tb g) : SimN G (tOp (rAdd0 G.K) ta tb) (nBin dCat f g) := by
  intro φ M H C σ ρ s C' he hs e Q hQ
  obtain ⟨v, C1, h1, e⟩ := bnd_i e
  obtain ⟨w, C2, h2, e⟩ := bnd_i e
  obtain ⟨d, h3, e⟩ := bn1_i e
  obtain ⟨d', h4, e⟩ := bn1_i e
  obtain ⟨z, h5, e⟩ := bn1_i e
  cases e
  refine ha φ M H C σ ρ v C1 he hs h1 _ fun x H1 x1 s1 r1 => ?_
  refine hb φ M H1 C1 σ ρ w C' (he.ext x1 hs.sub) s1 h2 _ fun y H2 x2 s2 r2 => ?_
  obtain ⟨vs, zs, rfl, l, r, h⟩ := sim_cat s2 (r1.ext x2 hs.sub) r2 h3 h4 h5
  refine .inr (.inr (.inr (h Q fun p hp => ?_)))
  exact hQ p _ ((x1.trans x2).none_ hp) ((x1.trans x2).trans (Ext.laid hp)) (s2.laidM hp) (CelR.newL s2 hp l r)

/-! ### ints -/
def dI (g : Int → Int → Option D) : D → D → Option D
  | .int i, .int j => g i j
  | _, _ => none
theorem dI_some {g : Int → Int → Option D} {d e z : D} (h : dI g d e = some z) : ∃ i j, d = .int i ∧ e = .int j ∧ g i j = some z := by
  cases d <;> cases e <;> first | exact ⟨_, _, rfl, rfl, h⟩ | cases h
def dSub : D → D → Option D := dI fun i j => some (.int (i - j))
instance {i j : Int} : Decidable (CMul i j) := inferInstanceAs (Decidable (_ ∨ _))
instance {i j : Int} : Decidable (CDivN i j) := inferInstanceAs (Decidable (_ ∧ _))
instance {i j : Int} : Decidable (CPow i j) := inferInstanceAs (Decidable (_ ∧ _))
def dDiv : D → D → Option D := dI fun i j => gd (CDivN i j) (some (.int (i.fdiv j)))
def dMod : D → D → Option D := dI fun i j => gd (j ≠ 0) (some (.int (i.fmod j)))
def dPow : D → D → Option D := dI fun i j => gd (CPow i j) (some (.int (i ^ j.toNat)))
def dLt : D → D → Option D := dI fun i j => some (.bl (decide (i < j)))
def dLe : D → D → Option D := dI fun i j => some (.bl (decide (i ≤ j)))
def dGt : D → D → Option D := dI fun i j => some (.bl (decide (j < i)))
def dGe : D → D → Option D := dI fun i j => some (.bl (decide (j ≤ i)))
theorem sim2_I {k : Int → Int → V} {k' : Int → Int → D} {c : Int → Int → Prop} [∀ i j, Decidable (c i j)] (hk : ∀ i j M H, Rp G M H (k i j) (k' i j)) : Sim2M G (rI c k) (dI fun i j => gd (c i j) (some (k' i j))) := by
  refine Sim2.m ?_
  intro φ M H C x y d e z hs rx ry hg Q hQ
  obtain ⟨i, j, rfl, rfl, h⟩ := dI_some hg
  obtain ⟨hc, h⟩ := gd_i h
  cases h
  exact ⟨i, j, rx.intI, ry.intI, hc, hQ _ H Ext.refl hs (hk i j M H)⟩
theorem sim2_I0 {k : Int → Int → V} {k' : Int → Int → D} (hk : ∀ i j M H, Rp G M H (k i j) (k' i j)) : Sim2M G (rI0 k) (dI fun i j => some (k' i j)) := by
  refine Sim2.m ?_
  intro φ M H C x y d e z hs rx ry hg Q hQ
  obtain ⟨i, j, rfl, rfl, h⟩ := dI_some hg
  cases h
  exact ⟨i, j, rx.intI, ry.intI, hQ _ H Ext.refl hs (hk i j M H)⟩
variable {ta tb : TE} {f g : SE}
theorem sim_sub (ha : SimE G ta f) (hb : SimE G tb g) : SimE G (tOp (rI0 fun i j => .int (i - j)) ta tb) (eBin dSub f g) := sim_op (sim2_I0 fun _ _ _ _ => .int _) ha hb
theorem sim_div (ha : SimE G ta f) (hb : SimE G tb g) : SimE G (tOp (rI CDivN fun i j => .int (i.fdiv j)) ta tb) (eBin dDiv f g) := sim_op (sim2_I fun _ _ _ _ => .int _) ha hb
theorem sim_mod (ha : SimE G ta f) (hb : SimE G tb g) : SimE G (tOp (rI (fun _ j => j ≠ 0) fun i j => .int (i.fmod j)) ta tb) (eBin dMod f g) := sim_op (sim2_I fun _ _ _ _ => .int _) ha hb
theorem sim_pow (ha : SimE G ta f) (hb : SimE G tb g) : SimE G (tOp (rI CPow fun i j => .int (i ^ j.toNat)) ta tb) (eBin dPow f g) := sim_op (sim2_I fun _ _ _ _ => .int _) ha hb
theorem sim_lt (ha : SimE G ta f) (hb : SimE G tb g) : SimE G (tOp (rI0 fun i j => .bl (decide (i < j))) ta tb) (eBin dLt f g) := sim_op (sim2_I0 fun _ _ _ _ => .bl _) ha hb
theorem sim_le (ha : SimE G ta f) (hb : SimE G tb g) : SimE G (tOp (rI0 fun i j => .bl (decide (i ≤ j))) ta tb) (eBin dLe f g) := sim_op (sim2_I0 fun _ _ _ _ => .bl _) ha hb
theorem sim_gt (ha : SimE G ta f) (hb : SimE G tb g) : SimE G (tOp (rI0 fun i j => .bl (decide (j < i))) ta tb) (eBin dGt f g) := sim_op (sim2_I0 fun _ _ _ _ => .bl _) ha hb
theorem sim_ge (ha : SimE G ta f) (hb : SimE G tb g) : SimE G (tOp (rI0 fun i j => .bl (decide (j ≤ i))) ta tb) (eBin dGe f g) := sim_op (sim2_I0 fun _ _ _ _ => .bl _) ha hb
def dNeg : D → Option D
  | .int i => some (.int (-i))
  | _ => none
theorem sim_neg (ha : SimE G ta f) : SimE G (tUn (rU fun i => .int (-i)) ta) (eUn dNeg f) := by
  refine sim_un ?_ ha
  intro φ M H C x sx d z hs rx ex hg Q hQ
  cases d with
  | int i => cases hg; exact ⟨i, (hs.see_rp rx ex).intI, hQ _ H Ext.refl hs (.int _)⟩
  | _ => cases hg

/-! ### * : ints, a list times an int -/
def rRepG : R2 := fun x y H Q => ∃ l k xs, x = .ref l ∧ y = .int k ∧ Rd H l (.lst xs) ∧ -(2 ^ 63) ≤ k ∧ k < 2 ^ 63 ∧ xs.length * k.toNat ≤ sizeLine ∧
  ∀ p, H p = none → Q (.ref p) (upd H p (.lst (List.replicate k.toNat xs).flatten))
theorem op_repG {X : Cx} : OpR X (binaryOp .Mult) rRepG := by
  intro pins s σ H x y v u Q I rx ry h
  obtain ⟨l, k, xs, rfl, rfl, hH, h1, h2, hz, q⟩ := h
  cases rx
  obtain ⟨t, rfl⟩ := ry
  obtain ⟨z, its, n, r, e⟩ := hH.ok I.hok
  have hl := r.length
  have hlen : its.toArray.size * k.toNat ≤ sizeLine := by rw [List.size_toArray, ← hl]; exact hz
  have hcap : ¬ its.toArray.size * k.toNat > (2 ^ 63 - 1) / 8 := by
    have : (sizeLine : Nat) ≤ (2 ^ 63 - 1) / 8 := by decide
    omega
  have hfit : ¬ (!Builtin.List.listFitsIndex k) = true := by
    rw [fitsIndex_both h1 h2]
    exact Bool.false_ne_true
  have hlong : ¬ Builtin.List.listTooLong (its.toArray.size * k.toNat) = true := by
    rw [notLongL hlen]
    exact Bool.false_ne_true
  have hnew : List.foldl (fun x1 x2 => x1 ++ x2) #[] (List.replicate (if its.toArray.isEmpty = true then 0 else k.toNat) its.toArray) = (List.replicate k.toNat its).flatten.toArray := by
    have f0 : ∀ m : Nat, List.foldl (fun x1 x2 => x1 ++ x2) #[] (List.replicate m its.toArray) = (List.replicate m its).flatten.toArray := fun m => by
      have := foldl_rep its m []
      rw [List.nil_append] at this
      exact this
    rw [f0]
    cases its with
    | nil => simp
    | cons a r' => rw [if_neg (by simp)]
  refine wpAny_binaryOp_repeat_ref (T := "list") (U := "int") (by decide) ⟨_, e, rfl⟩ (fun s' => typeIs_int s' k t) noFill_list_mul F.fills_int_mul F.slot_int_rmul repeat_list F.slot_int_index.lookup
    (call_meets F.slot_int_rmul (typeIs_int s k t) F.entry_int_rmul (F.args_int_rmul_2 _ _) (int___rmul___int_list k t l its.toArray n)
      ⟨e, rfl, ⟨_, e, rfl⟩, call_meets F.slot_list_mul ⟨_, e, rfl⟩ F.entry_list_mul (F.args_list_mul_2 _ _) (AutoListH.list___mul___list_int_3 l its.toArray n k t hfit hcap hlong) ⟨e, ?_⟩⟩)
  rw [hnew]
  exact ⟨.ref _, _, I.lnew (t' := s.toks) (r.rep k.toNat) (by rw [PyProof.Rows.lm_len_rep_flat, Nat.mul_comm]; exact hz), rfl, q _ I.fresh⟩
def rMul0 : R2 := fun x y H Q => rI CMul (fun i j => .int (i * j)) x y H Q ∨ rRepG x y H Q
theorem op_mul0 {X : Cx} : OpR X (binaryOp .Mult) rMul0 := op_mul.or op_repG
def dMul : D → D → Option D
  | .int i, .int j => gd (CMul i j) (some (.int (i * j)))
  | .lst xs, .int k => gd (k ≤ 1000000 ∧ -1000000 ≤ k ∧ xs.length * k.toNat ≤ sizeLine) (some (.lst (List.replicate k.toNat xs).flatten))
  | _, _ => none
theorem flat_len {α : Type} (xs : List α) : ∀ k : Nat, (List.replicate k xs).flatten.length = xs.length * k
  | 0 => by simp
  | k + 1 => by rw [List.replicate_succ, List.flatten_cons, List.length_append, flat_len xs k, Nat.mul_succ, Nat.add_comm]
theorem sim2_mul : Sim2M G rMul0 dMul := by
  intro φ M H C x y sx sy d e z hs rx ry ex ey hg Q hQ
  cases d with
  | int i =>
    cases e with
    | int j =>
      obtain ⟨hc, hg⟩ := gd_i hg
      cases hg
      exact .inl ⟨i, j, (hs.see_rp rx ex).intI, (hs.see_rp ry ey).intI, hc, hQ _ H Ext.refl hs (.int _)⟩
    | _ => cases hg
  | lst xs =>
    cases e with
    | int k =>
      obtain ⟨⟨h1, h2, hl⟩, hg⟩ := gd_i hg
      cases hg
      obtain ⟨a, vs, rfl, h3, l1, r1⟩ := hs.seeL rx ex
      have e1 := r1.length
      refine .inr ⟨a, k, vs, rfl, (hs.see_rp ry ey).intI, h3, by omega, by omega, by rw [e1]; exact hl, fun p hp => ?_⟩
      have x2 : Ext φ H (upd H p (.lst (List.replicate k.toNat vs).flatten)) := Ext.laid hp
      exact hQ _ _ x2 (hs.laid hp) (.lst (hs.nm hp) (.inl upd_same) (by rw [flat_len, e1]; exact hl) ((r1.flat _).keeps (x2.keeps hs.sub)))
    | _ => cases hg
  | _ => cases hg
theorem sim_mul (ha : SimE G ta f) (hb : SimE G tb g) : SimE G (tOp rMul0 ta tb) (eBin dMul f g) := sim_op sim2_mul ha hb

/-! ### ==, != -/
mutual
theorem Rp.dp {M : Addr → Prop} {H : Hp} : ∀ {v : V} {d : D}, Rp G M H v d → (toPy d).canLay0 = true → Dp G.K H v (toPy d)
  | _, _, .non, _ => by rw [toPy]; exact .non
  | _, _, .bl b, _ => by rw [toPy]; exact .bl b
  | _, _, .int b, _ => by rw [toPy]; exact .int b
  | _, _, .str b, _ => by rw [toPy]; exact .str b
  | _, _, .tup h l r, c => by rw [toPy]; exact .tup h.sq (RpL.dp r (by simpa [toPy, PyData.canLay0] using c))
  | _, _, .lst n h l r, c => by rw [toPy]; exact .lst (.inl h) (RpL.dp r (by simpa [toPy, PyData.canLay0] using c))
  | _, _, .scr _ _, c => by simp [toPy, PyData.canLay0] at c
  | _, _, .kt _ _, c => by simp [toPy, PyData.canLay0] at c
  | _, _, .dK _ _ _ _ _, c => by simp [toPy, PyData.canLay0] at c
  | _, _, .dT _ _ _ _ _, c => by simp [toPy, PyData.canLay0] at c
  | _, _, .ins _ _ _ _ _ _, c => by simp [toPy, PyData.canLay0] at c
theorem RpL.dp {M : Addr → Prop} {H : Hp} : ∀ {vs : List V} {ds : List D}, RpL G M H vs ds → PyData.canLayAll0 (toPyL ds) = true → DpAll G.K H vs (toPyL ds)
  | _, _, .nil, _ => by rw [toPyL]; exact .nil
  | _, _, .cons r t, c => by
    rw [toPyL, PyData.canLayAll0] at c
    rw [toPyL]
    have c' := Bool.and_eq_true_iff.mp c
    exact .cons (Rp.dp r c'.1) (RpL.dp t c'.2)
end
abbrev shp (d : D) : Bool := SeqAt.shaped (toPy d)
theorem Rp.dpS {M : Addr → Prop} {H : Hp} {v : V} {d : D} (r : Rp G M H v d) (h : shp d = true) : Dp G.K H v (toPy d) := r.dp (SeqAt.canLay_of_shaped h)
abbrev eqvD (d e : D) : Bool := PyData.eqv (toPy d) (toPy e)
def dEq (d e : D) : Option D := gd (shp d = true ∧ shp e = true) (some (.bl (eqvD d e)))
def dNe (d e : D) : Option D := gd (shp d = true ∧ shp e = true) (some (.bl (!eqvD d e)))
theorem sim_eq (ha : SimE G ta f) (hb : SimE G tb g) : SimE G (tOp (rEqD G.K) ta tb) (eBin dEq f g) := by
  refine sim_op (Sim2.m ?_) ha hb
  intro φ M H C x y d e z hs rx ry hg Q hQ
  obtain ⟨⟨h1, h2⟩, hg⟩ := gd_i hg
  cases hg
  exact ⟨_, _, rx.dpS h1, ry.dpS h2, h1, h2, hQ _ H Ext.refl hs (.bl _)⟩
theorem sim_ne (ha : SimE G ta f) (hb : SimE G tb g) : SimE G (tOp (rNeD G.K) ta tb) (eBin dNe f g) := by
  refine sim_op (Sim2.m ?_) ha hb
  intro φ M H C x y d e z hs rx ry hg Q hQ
  obtain ⟨⟨h1, h2⟩, hg⟩ := gd_i hg
  cases hg
  exact ⟨_, _, rx.dpS h1, ry.dpS h2, h1, h2, hQ _ H Ext.refl hs (.bl _)⟩

/-! ### is None, is True .. -/
def isN : D → Bool
  | .non => true
  | _ => false
def dIsN (d e : D) : Option D := gd (isN e = true) (some (.bl (isN d)))
def dIsNotN (d e : D) : Option D := gd (isN e = true) (some (.bl (!isN d)))
theorem Rp.isN {M : Addr → Prop} {H : Hp} {v : V} {d : D} (r : Rp G M H v d) : decide (v = .non) = DX.isN d := by
  cases r <;> first | rfl | simp [DX.isN]
theorem Rp.nonB {M : Addr → Prop} {H : Hp} {v : V} {d : D} (r : Rp G M H v d) (h : DX.isN d = true) : v = .non := by
  cases r <;> first | rfl | simp [DX.isN] at h
theorem sim_isN (ha : SimE G ta f) (hb : SimE G tb g) : SimE G (tOp (fun x y H Q => y = .non ∧ Q (.bl (decide (x = .non))) H) ta tb) (eBin dIsN f g) := by
  refine sim_op (Sim2.m ?_) ha hb
  intro φ M H C x y d e z hs rx ry hg Q hQ
  obtain ⟨h1, hg⟩ := gd_i hg
  cases hg
  refine ⟨ry.nonB h1, ?_⟩
  rw [rx.isN]
  exact hQ _ H Ext.refl hs (.bl _)
theorem sim_notN (ha : SimE G ta f) (hb : SimE G tb g) : SimE G (tOp (fun x y H Q => y = .non ∧ Q (.bl (!decide (x = .non))) H) ta tb) (eBin dIsNotN f g) := by
  refine sim_op (Sim2.m ?_) ha hb
  intro φ M H C x y d e z hs rx ry hg Q hQ
  obtain ⟨h1, hg⟩ := gd_i hg
  cases hg
  refine ⟨ry.nonB h1, ?_⟩
  rw [rx.isN]
  exact hQ _ H Ext.refl hs (.bl _)

/-! ### is, is not: a bool -/
def dIsB : D → D → Option D
  | .bl a, .bl b => some (.bl (decide (a = b)))
  | _, _ => none
end
end DX

/-! DOps2: in, subscripts, slices, built-ins over data. -/
namespace DX
open PySem PySem.Spec L2

/-! ### in, not in -/
def rDIn (neg : Bool) : R2 := fun y x H Q => ∃ a o, x = .ref a ∧ DGet H a y o ∧ Q (.bl (if neg then !o.isSome else o.isSome)) H
theorem op_dIn {X : Cx} (hu : X.A.units + 1 < cLine) : OpR X (compareOp .In) (rDIn false) := by
  intro pins s σ H x y v u Q I rx ry h
  obtain ⟨a, o, rfl, g, q⟩ := h
  cases ry
  exact d_in hu I g rx fun s' I' => ⟨.bl _, H, I', rfl, q⟩
theorem op_dNotIn {X : Cx} (hu : X.A.units + 1 < cLine) : OpR X (compareOp .NotIn) (rDIn true) := by
  intro pins s σ H x y v u Q I rx ry h
  obtain ⟨a, o, rfl, g, q⟩ := h
  cases ry
  exact d_notIn hu I g rx fun s' I' => ⟨.bl _, H, I', rfl, q⟩
def rSIn (neg : Bool) : R2 := fun x y H Q => ∃ i j, x = .str i ∧ y = .str j ∧ Q (.bl (if neg then !(!(Builtin.Str.occurrences j i 0 j.length 1).isEmpty) else !(Builtin.Str.occurrences j i 0 j.length 1).isEmpty)) H
def rIn0 (K : PySem.W.Frag) : R2 := fun x y H Q => rInD K x y H Q ∨ rIn K false x y H Q ∨ rDIn false x y H Q ∨ rSIn false x y H Q
def rNotIn0 (K : PySem.W.Frag) : R2 := fun x y H Q => rNotInD K x y H Q ∨ rIn K true x y H Q ∨ rDIn true x y H Q ∨ rSIn true x y H Q
theorem op_in0 {X : Cx} (hu : X.A.units + 65 < cLine) : OpR X (compareOp .In) (rIn0 X.K) := (op_inD hu).or (op_in_seq.or ((op_dIn (by omega)).or op_in_str))
theorem op_notIn0 {X : Cx} (hu : X.A.units + 65 < cLine) : OpR X (compareOp .NotIn) (rNotIn0 X.K) := (op_notInD hu).or (op_notIn_seq.or ((op_dNotIn (by omega)).or op_notin_str))
def flatD : D → Bool
  | .non => true
  | .bl _ => true
  | .int _ => true
  | .str _ => true
  | _ => false
/-- whether d is in e -/
def inB (d e : D) : Option Bool := match e with
  | .lst es => gd (shp d = true ∧ shp (.lst es) = true) (some (es.any fun z => eqvD z d))
  | .tup es => gd (flatD d = true ∧ es.all flatD = true) (some (es.any fun z => eqvD z d))
  | .kt es => gd (flatD d = true ∧ es.all flatD = true) (some (es.any fun z => eqvD z d))
  | .dK kvs => bn1 (dKey d) fun k => some (dGet kvs k).isSome
  | .dT kvs => match d with
    | .tup ks => bn1 (dKeys ks) fun k => some (dGet kvs k).isSome
    | _ => none
  | .str z => match d with
    | .str x => some (!(Builtin.Str.occurrences z x 0 z.length 1).isEmpty)
    | _ => none
  | _ => none
def dIn (d e : D) : Option D := bn1 (inB d e) fun b => some (.bl b)
def dNotIn (d e : D) : Option D := bn1 (inB d e) fun b => some (.bl (!b))

section
variable {G : Gm} {φ : List Addr} {M : Addr → Prop} {H : Hp} {C : Store} {x y : V} {s : Sv}
theorem Rp.flat {v : V} {d : D} (r : Rp G M H v d) (f : flatD d = true) : flatV v = true := by
  cases r <;> first | rfl | simp [flatD] at f
theorem Rp.eqV {v w : V} {d e : D} (r : Rp G M H v d) (q : Rp G M H w e) (f : flatD d = true) (g : flatD e = true) : L2.eqV v w = eqvD d e := by
  cases r <;> cases q <;> first | rfl | (simp [flatD] at f g; done) | (simp [eqvD, toPy, PyData.eqv, L2.eqV])
theorem RpL.flat' : ∀ {vs : List V} {ds : List D}, RpL G M H vs ds → ds.all flatD = true → vs.all flatV = true
  | _, _, .nil, _ => rfl
  | _, _, .cons r t, f => by
    rw [List.all_cons, Bool.and_eq_true] at f ⊢
    exact ⟨r.flat f.1, RpL.flat' t f.2⟩
theorem RpL.inV {v : V} {d : D} (r : Rp G M H v d) (f : flatD d = true) : ∀ {vs : List V} {ds : List D}, RpL G M H vs ds → ds.all flatD = true → L2.inV v vs = ds.any fun z => eqvD z d
  | _, _, .nil, _ => rfl
  | _, _, .cons q t, g => by
    rw [List.all_cons, Bool.and_eq_true] at g
    have ih := RpL.inV r f t g.2
    unfold L2.inV at ih ⊢
    rw [List.any_cons, List.any_cons, ih, q.eqV r g.1 f]
theorem Rp.key {v : V} {d : D} {k : Key} (r : Rp G M H v d) (h : dKey d = some k) : v = kV k := by
  rw [dKey_some h] at r
  cases k with
  | inl i => exact r.intI
  | inr z => exact r.strI
theorem RpL.keys : ∀ {vs : List V} {ds : List D} {ks : List Key}, RpL G M H vs ds → dKeys ds = some ks → vs = ks.map kV
  | _, _, ks, .nil, h => by simp [dKeys] at h; subst h; rfl
  | _, _, ks, .cons (d := d) (ds := ds) r t, h => by
    unfold dKeys at h
    split at h
    · rename_i k ks' h1 h2
      cases h
      rw [r.key h1, RpL.keys t h2]; rfl
    · cases h
/-- a look-up in a dict's pairs, by values -/
theorem RpL.look {κ : Type} [DecidableEq κ] : ∀ {kvs : List (κ × V)} {ds : List (κ × D)}, kvs.map (·.1) = ds.map (·.1) → RpL G M H (kvs.map (·.2)) (ds.map (·.2)) → ∀ k : κ,
    (dGet ds k = none ∧ valV kvs k = none) ∨ ∃ d v, dGet ds k = some d ∧ valV kvs k = some v ∧ Rp G M H v d
  | [], [], _, _, k => .inl ⟨rfl, rfl⟩
  | [], _ :: _, e, _, _ => by simp at e
  | _ :: _, [], e, _, _ => by simp at e
  | (k1, v) :: kvs, (k2, d) :: ds, e, r, k => by
    simp only [List.map_cons, List.cons.injEq] at e
    simp only [List.map_cons] at r
    obtain ⟨e1, e2⟩ := e
    subst e1
    cases r with
    | cons r t =>
      by_cases h : k1 = k
      · refine .inr ⟨d, v, ?_, valV_pos h, r⟩
        simp [dGet, List.find?_cons, h]
      · have h1 : valV ((k1, v) :: kvs) k = valV kvs k := valV_neg h
        have h2 : dGet ((k1, d) :: ds) k = dGet ds k := by simp [dGet, List.find?_cons, h]
        rw [h1, h2]
        exact RpL.look e2 t k
/-- what a dict holds at a key -/
theorem StR.dget {sd sk : Sv} {d k : D} {o : Option D} (st : StR G φ M H C) (rd : SvR G φ M H x sd) (rk : SvR G φ M H y sk) (ed : see C sd = some d) (ek : see C sk = some k) (h : dictAt d k = some o) :
    ∃ a, x = .ref a ∧ ∃ u, DGet H a y u ∧ ((o = none ∧ u = none) ∨ ∃ e v, o = some e ∧ u = some v ∧ Rp G M H v e) := by
  -- the dict's place
  have hd : ((∃ ds, d = .dK ds ∧ ∃ a kvs, x = .ref a ∧ Rd H a (.dK kvs) ∧ kvs.map (·.1) = ds.map (·.1) ∧ RpL G M H (kvs.map (·.2)) (ds.map (·.2))) ∨
      ∃ ds, d = .dT ds ∧ ∃ a kvs, x = .ref a ∧ Rd H a (.dT kvs) ∧ kvs.map (·.1) = ds.map (·.1) ∧ RpL G M H (kvs.map (·.2)) (ds.map (·.2))) := by
    cases d with
    | dK ds =>
      refine .inl ⟨ds, rfl, ?_⟩
      rcases st.see_rd rd ed with ⟨_, h⟩ | ⟨n, a, c, _, rfl, _, _, hu, h⟩
      · cases h with
        | dK n h l e r => exact ⟨_, _, rfl, h, e, r⟩
      · cases c with
        | dK ds' => cases hu; obtain ⟨kvs, h1, h2, h3, h4⟩ := h; exact ⟨a, kvs, rfl, .inl h1, h3, h4⟩
        | lk z =>
          have hu' : D.dK ds = z := hu
          subst hu'
          obtain ⟨od, kvs, h1, h2, h3, h4⟩ := h
          exact ⟨a, kvs, rfl, .inr ⟨od, h1⟩, h3, h4⟩
        | _ => cases hu
    | dT ds =>
      refine .inr ⟨ds, rfl, ?_⟩
      rcases st.see_rd rd ed with ⟨_, h⟩ | ⟨n, a, c, _, rfl, _, _, hu, h⟩
      · cases h with
        | dT n h l e r => exact ⟨_, _, rfl, h, e, r⟩
      · cases c with
        | dT ds' => cases hu; obtain ⟨kvs, h1, h2, h3, h4⟩ := h; exact ⟨a, kvs, rfl, .inl h1, h3, h4⟩
        | lk z =>
          have hu' : D.dT ds = z := hu
          subst hu'
          obtain ⟨od, kvs, h1, h2, h3, h4⟩ := h
          exact ⟨a, kvs, rfl, .inr ⟨od, h1⟩, h3, h4⟩
        | _ => cases hu
    | _ => cases h
  rcases hd with ⟨ds, rfl, a, kvs, rfl, h1, h2, h3⟩ | ⟨ds, rfl, a, kvs, rfl, h1, h2, h3⟩
  · refine ⟨a, rfl, ?_⟩
    have h' : (dKey k).map (dGet ds) = some o := h
    cases hk : dKey k with
    | none => rw [hk] at h'; cases h'
    | some kk =>
      rw [hk] at h'
      cases h'
      have ey := (st.see_rp rk ek).key hk
      refine ⟨valV kvs kk, .inl ⟨kvs, kk, h1, ey, rfl⟩, ?_⟩
      rcases RpL.look h2 h3 kk with ⟨q1, q2⟩ | ⟨e, v, q1, q2, q3⟩
      · exact .inl ⟨q1, q2⟩
      · exact .inr ⟨e, v, q1, q2, q3⟩
  · refine ⟨a, rfl, ?_⟩
    cases k with
    | tup ks =>
      have h' : (dKeys ks).map (dGet ds) = some o := h
      cases hk : dKeys ks with
      | none => rw [hk] at h'; cases h'
      | some kk =>
        rw [hk] at h'
        cases h'
        obtain ⟨b, vs, rfl, t1, t2, t3⟩ := st.seeT rk ek
        have ev := t3.keys hk
        subst ev
        refine ⟨valV kvs kk, .inr ⟨kvs, kk, b, h1, rfl, t1.2, rfl⟩, ?_⟩
        rcases RpL.look h2 h3 kk with ⟨q1, q2⟩ | ⟨e, v, q1, q2, q3⟩
        · exact .inl ⟨q1, q2⟩
        · exact .inr ⟨e, v, q1, q2, q3⟩
    | _ => cases h
theorem inB_dict {d e : D} {b : Bool} (h : inB d e = some b) (hd : (∃ kvs, e = .dK kvs) ∨ ∃ kvs, e = .dT kvs) : ∃ o, dictAt e d = some o ∧ b = o.isSome := by
  rcases hd with ⟨kvs, rfl⟩ | ⟨kvs, rfl⟩
  · obtain ⟨k, h1, h⟩ := bn1_i (show bn1 (dKey d) (fun k => some (dGet kvs k).isSome) = some b from h)
    cases h
    exact ⟨dGet kvs k, by simp [dictAt, h1], rfl⟩
  · cases d with
    | tup ks =>
      obtain ⟨k, h1, h⟩ := bn1_i (show bn1 (dKeys ks) (fun k => some (dGet kvs k).isSome) = some b from h)
      cases h
      exact ⟨dGet kvs k, by simp [dictAt, h1], rfl⟩
    | _ => cases h
theorem isSome_of {o : Option D} {u : Option V} (h : (o = none ∧ u = none) ∨ ∃ e v, o = some e ∧ u = some v ∧ Rp G M H v e) : o.isSome = u.isSome := by
  rcases h with ⟨rfl, rfl⟩ | ⟨e, v, rfl, rfl, _⟩ <;> rfl
/-- both at once: the two answers of in and not in -/
theorem sim_inAny (neg : Bool) {sx sy : Sv} {d e : D} {b : Bool} (hs : StR G φ M H C) (rx : SvR G φ M H x sx) (ry : SvR G φ M H y sy) (ex : see C sx = some d) (ey : see C sy = some e) (h : inB d e = some b) {Q : VK} (hQ : Q (.bl (if neg then !b else b)) H) :
    (if neg then rNotIn0 G.K x y H Q else rIn0 G.K x y H Q) := by
  have rx' := hs.see_rp rx ex
  have ry' := hs.see_rp ry ey
  have fin : (rInD G.K x y H Q ∧ neg = false ∨ rNotInD G.K x y H Q ∧ neg = true) ∨ rIn G.K neg x y H Q ∨ rDIn neg x y H Q ∨ rSIn neg x y H Q := by
    cases e with
    | lst es =>
      obtain ⟨⟨h1, h2⟩, h⟩ := gd_i (show gd _ _ = some b from h)
      cases h
      have d1 := rx'.dpS h1
      have d2 := ry'.dpS h2
      have e2 : toPy (.lst es) = .list (es.map toPy) := by rw [toPy, toPyL_map]
      rw [e2] at d2
      have ea : (es.any fun z => eqvD z d) = ((es.map toPy).any fun z => PyData.eqv z (toPy d)) := by rw [List.any_map]; rfl
      have h2' : SeqAt.shaped (.list (es.map toPy)) = true := by rw [← e2]; exact h2
      rw [ea] at hQ
      cases neg with
      | false => exact .inl (.inl ⟨⟨_, _, d1, d2, h1, h2', hQ⟩, rfl⟩)
      | true => exact .inl (.inr ⟨⟨_, _, d1, d2, h1, h2', hQ⟩, rfl⟩)
    | tup es =>
      obtain ⟨⟨h1, h2⟩, h⟩ := gd_i (show gd _ _ = some b from h)
      cases h
      cases ry' with
      | tup t1 t2 t3 =>
        have q := RpL.inV rx' h1 t3 h2
        refine .inr (.inl ⟨_, _, rfl, .inr t1.sq, rx'.flat h1, t3.flat' h2, ?_⟩)
        rw [q]
        exact hQ
    | kt es =>
      obtain ⟨⟨h1, h2⟩, h⟩ := gd_i (show gd _ _ = some b from h)
      cases h
      cases ry' with
      | kt t1 t3 =>
        have q := RpL.inV rx' h1 t3 h2
        refine .inr (.inl ⟨_, _, rfl, .inr (t1 H), rx'.flat h1, t3.flat' h2, ?_⟩)
        rw [q]
        exact hQ
    | dK kvs =>
      obtain ⟨o, h1, rfl⟩ := inB_dict h (.inl ⟨_, rfl⟩)
      obtain ⟨a, rfl, u, g, w⟩ := hs.dget ry rx ey ex h1
      rw [isSome_of w] at hQ
      exact .inr (.inr (.inl ⟨a, u, rfl, g, hQ⟩))
    | dT kvs =>
      obtain ⟨o, h1, rfl⟩ := inB_dict h (.inr ⟨_, rfl⟩)
      obtain ⟨a, rfl, u, g, w⟩ := hs.dget ry rx ey ex h1
      rw [isSome_of w] at hQ
      exact .inr (.inr (.inl ⟨a, u, rfl, g, hQ⟩))
    | str z =>
      cases d with
      | str c =>
        cases h
        exact .inr (.inr (.inr ⟨c, z, rx'.strI, ry'.strI, hQ⟩))
      | _ => cases h
    | _ => cases h
  cases neg with
  | false =>
    rcases fin with (⟨q, _⟩ | ⟨_, q⟩) | q
    · exact .inl q
    · cases q
    · exact .inr q
  | true =>
    rcases fin with (⟨_, q⟩ | ⟨q, _⟩) | q
    · cases q
    · exact .inl q
    · exact .inr q
theorem sim_in {ta tb : TE} {f g : SE} (ha : SimE G ta f) (hb : SimE G tb g) : SimE G (tOp (rIn0 G.K) ta tb) (eBin dIn f g) := by
  refine sim_op ?_ ha hb
  intro φ M H C x y sx sy d e z hs rx ry ex ey hg Q hQ
  obtain ⟨b, h1, hg⟩ := bn1_i hg
  cases hg
  exact sim_inAny false hs rx ry ex ey h1 (hQ _ H Ext.refl hs (.bl _))
theorem sim_notIn {ta tb : TE} {f g : SE} (ha : SimE G ta f) (hb : SimE G tb g) : SimE G (tOp (rNotIn0 G.K) ta tb) (eBin dNotIn f g) := by
  refine sim_op ?_ ha hb
  intro φ M H C x y sx sy d e z hs rx ry ex ey hg Q hQ
  obtain ⟨b, h1, hg⟩ := bn1_i hg
  cases hg
  exact sim_inAny true hs rx ry ex ey h1 (hQ _ H Ext.refl hs (.bl _))

/-! ### subscripts -/
def rIxD : R2 := fun x y H Q => ∃ a v, x = .ref a ∧ DGet H a y (some v) ∧ Q v H
end
theorem ix_dict {X : Cx} (hu : X.A.units + 1 < cLine) : IxR X rIxD := by
  intro value slice pins s σ H x y v u Q I rx ry h hs
  obtain ⟨a, w, rfl, g, q⟩ := h
  cases rx
  have hT := dict_typeIs I g
  have hg : wpAny (model X.prog X.w) X.A (getItem (.ref a) u) (EP X pins σ Q) X.xe s := d_getItem hu I g ry fun w' s' I' r' => ⟨w, H, I', r', q⟩
  unfold PyProof.Rows.subscriptTail
  refine wpAny_bind ?_
  rw [getitemInPython_of_ne hT.not_modules]
  refine wpAny_bind (wpAny_specialOf hT PySem.F.slot_dict_getitem.lookup ?_)
  have fin : wpAny (model X.prog X.w) X.A (subscripted slice false (.ref a) u) (fun r s₃ => wpAny (model X.prog X.w) X.A (letTemporaryGo value (.ref a) r >>= fun _ => pure r) (EP X pins σ Q) X.xe s₃) X.xe s := by
    rw [hs]
    exact wpAny_operating (wpAny_mono hg (fun r s₃ h₃ => wpAny_bind (wpAny_letTemporaryGo (wpAny_pure h₃))) fun _ _ x => x)
  first
    | exact wpAny_pure (wpAny_bind fin)
    | exact wpAny_bind (wpAny_pure (wpAny_bind fin))
    | exact wpAny_bind fin
def rIx0 (K : PySem.W.Frag) : R2 := fun x y H Q => rIx K x y H Q ∨ rIxD x y H Q
theorem ix_0 {X : Cx} (hu : X.A.units + 1 < cLine) : IxR X (rIx0 X.K) := ix_seq.or (ix_dict hu)
/-- d[e] -/
def dIx (d e : D) : Option D := match d with
  | .lst xs => match e with
    | .int i => atI xs i
    | _ => none
  | .tup xs => match e with
    | .int i => atI xs i
    | _ => none
  | .kt xs => match e with
    | .int i => atI xs i
    | _ => none
  | .scr ns => match e with
    | .int i => bn1 (atI ns i) fun n => some (.int n)
    | _ => none
  | .str z => match e with
    | .int i => gd (z.length ≤ sizeLine) (bn1 (atI z.cps.toList i) fun c => some (.str ⟨#[c]⟩))
    | _ => none
  | .dK _ => (dictAt d e).join
  | .dT _ => (dictAt d e).join
  | _ => none
section
variable {G : Gm} {φ : List Addr} {M : Addr → Prop} {H : Hp} {C : Store} {x y : V} {s : Sv}
theorem ixN_lt {n : Nat} {i : Int} {j : Nat} (h : ixN n i = some j) : j < n := (ixN_seq h).2.1
theorem RpL.at_ {vs : List V} {ds : List D} (r : RpL G M H vs ds) {i : Int} {d : D} (h : atI ds i = some d) : ∃ v, atI vs i = some v ∧ Rp G M H v d := by
  unfold atI at h ⊢
  rw [r.length]
  cases hj : ixN ds.length i with
  | none => rw [hj] at h; cases h
  | some j =>
    rw [hj] at h
    exact r.get h
theorem join_some {α : Type} {o : Option (Option α)} {z : α} (h : o.join = some z) : o = some (some z) := by
  cases o with
  | none => cases h
  | some p => cases p with
    | none => cases h
    | some q => cases h; rfl
theorem sim2_ix : Sim2M G (rIx0 G.K) dIx := by
  intro φ M H C x y sx sy d e z hs rx ry ex ey hg Q hQ
  have dict : ∀ o, dictAt d e = some o → o = some z → rIx0 G.K x y H Q := fun o h1 h2 => by
    obtain ⟨a, rfl, u, g, w⟩ := hs.dget rx ry ex ey h1
    subst h2
    rcases w with ⟨q, _⟩ | ⟨e', v, q1, rfl, q3⟩
    · cases q
    · cases q1
      exact .inr ⟨a, v, rfl, g, hQ v H Ext.refl hs q3⟩
  cases d with
  | lst xs =>
    cases e with
    | int i =>
      obtain ⟨a, vs, rfl, h1, l, r⟩ := hs.seeL rx ex
      obtain ⟨v, q1, q2⟩ := r.at_ hg
      exact .inl (.inl ⟨a, vs, i, v, rfl, (hs.see_rp ry ey).intI, .inl h1, q1, hQ v H Ext.refl hs q2⟩)
    | _ => cases hg
  | tup xs =>
    cases e with
    | int i =>
      obtain ⟨a, vs, rfl, h1, l, r⟩ := hs.seeT rx ex
      obtain ⟨v, q1, q2⟩ := r.at_ hg
      exact .inl (.inr (.inl ⟨a, vs, i, v, rfl, (hs.see_rp ry ey).intI, h1.sq, q1, hQ v H Ext.refl hs q2⟩))
    | _ => cases hg
  | kt xs =>
    cases e with
    | int i =>
      rcases hs.see_rd rx ex with ⟨_, h⟩ | ⟨n, a, c, _, rfl, _, _, hu, h⟩
      · cases h with
        | kt h r =>
          obtain ⟨v, q1, q2⟩ := r.at_ hg
          exact .inl (.inr (.inl ⟨_, _, i, v, rfl, (hs.see_rp ry ey).intI, h H, q1, hQ v H Ext.refl hs q2⟩))
      · cases c with
        | lk d =>
          have hu' : D.kt xs = d := hu
          subst hu'
          exact h.elim
        | kt _ => exact h.elim
        | _ => cases hu
    | _ => cases hg
  | scr ns =>
    cases e with
    | int i =>
      obtain ⟨n, h1, hg⟩ := bn1_i hg
      cases hg
      have r := hs.see_rp rx ex
      cases r with
      | scr h l =>
        have q1 : atI (ns.map V.int) i = some (.int n) := by
          unfold atI at h1 ⊢
          rw [List.length_map]
          cases hj : ixN ns.length i with
          | none => rw [hj] at h1; cases h1
          | some j =>
            rw [hj] at h1
            have h1' : ns[j]? = some n := h1
            show (ns.map V.int)[j]? = _
            rw [List.getElem?_map, h1']; rfl
        exact .inl (.inl ⟨_, _, i, _, rfl, (hs.see_rp ry ey).intI, h.sq, q1, hQ _ H Ext.refl hs (.int _)⟩)
    | _ => cases hg
  | str z' =>
    cases e with
    | int i =>
      obtain ⟨hl, hg⟩ := gd_i hg
      obtain ⟨c, h1, hg⟩ := bn1_i hg
      cases hg
      exact .inl (.inr (.inr ⟨z', i, c, (hs.see_rp rx ex).strI, (hs.see_rp ry ey).intI, hl, h1, hQ _ H Ext.refl hs (.str _)⟩))
    | _ => cases hg
  | dK kvs => exact dict _ (join_some hg) rfl
  | dT kvs => exact dict _ (join_some hg) rfl
  | _ => cases hg
theorem sim_ix {ta tb : TE} {f g : SE} (ha : SimE G ta f) (hb : SimE G tb g) : SimE G (tOp (rIx0 G.K) ta tb) (eBin dIx f g) := sim_op sim2_ix ha hb

/-! ### slices -/
abbrev SO := Env → Store → Option (Option Int × Store)
def SimO (G : Gm) (t : TO) (f : SO) : Prop :=
  ∀ φ M H C σ ρ o C', EnvR G φ M H σ ρ → StR G φ M H C → f ρ C = some (o, C') → ∀ Q : Option Int → Hp → Prop, (∀ H', Ext φ H H' → StR G φ M H' C' → Q o H') → t σ H Q
def oNone : SO := fun _ C => some (none, C)
def oSome (f : SE) : SO := fun ρ C => bnd (f ρ C) fun v C1 => match v with
  | .dat (.int i) => some (some i, C1)
  | _ => none
theorem sim_onone : SimO G tNoPart oNone := by
  intro φ M H C σ ρ o C' he hs e Q hQ
  cases e
  exact hQ H Ext.refl hs
theorem sim_osome {te : TE} {f : SE} (h : SimE G te f) : SimO G (tPart te) (oSome f) := by
  intro φ M H C σ ρ o C' he hs e Q hQ
  obtain ⟨v, C1, h1, e⟩ := bnd_i e
  refine h φ M H C σ ρ v C1 he hs h1 _ fun x H1 x1 s1 r1 => ?_
  cases v with
  | dat d =>
    cases d with
    | int i =>
      cases e
      exact ⟨i, Rp.intI r1, hQ H1 x1 s1⟩
    | _ => cases e
  | cel n => cases e
/-- the part of a list -/
def cutD {α : Type} (xs : List α) (lo hi : Option Int) : List α := (xs.drop (HT.sIx xs.length 0 lo)).take (HT.sIx xs.length xs.length hi - HT.sIx xs.length 0 lo)
theorem cutD_len {α : Type} (xs : List α) (lo hi : Option Int) : (cutD xs lo hi).length ≤ xs.length := by
  unfold cutD
  rw [List.length_take, List.length_drop]
  omega
theorem RpL.cut {vs : List V} {ds : List D} (r : RpL G M H vs ds) (lo hi : Option Int) : RpL G M H (cutV vs lo hi) (cutD ds lo hi) := by
  unfold cutV cutD
  rw [r.length]
  exact (r.drop _).take _
def dSl (d : D) (lo hi : Option Int) : Option D := match d with
  | .lst xs => some (.lst (cutD xs lo hi))
  | .scr ns => some (.lst ((cutD ns lo hi).map D.int))
  | .tup xs => some (.tup (cutD xs lo hi))
  | .str z => gd (z.length ≤ sizeLine) (some (.str (cutS z lo hi)))
  | _ => none
def rSl0 (K : PySem.W.Frag) : V → Option Int → Option Int → Hp → VK → Prop := fun x lo hi H Q => rSlL K x lo hi H Q ∨ rSlA K x lo hi H Q ∨ rSlS x lo hi H Q
theorem sl_0 {X : Cx} : SlR X (rSl0 X.K) := sl_list.or (sl_tupA.or sl_str)
def eSl (f : SE) (lo hi : SO) : SE := fun ρ C => bnd (f ρ C) fun v C1 => bnd (lo ρ C1) fun a C2 => bnd (hi ρ C2) fun b C3 => bn1 (see C3 v) fun d => bn1 (dSl d a b) fun z => some (.dat z, C3)
/-- a list's slice as a new object -/
def nSl (f : SE) (lo hi : SO) : SN := fun ρ C => bnd (f ρ C) fun v C1 => bnd (lo ρ C1) fun a C2 => bnd (hi ρ C2) fun b C3 => bn1 (see C3 v) fun d => match d with
  | .lst xs => some (.lst (cutD xs a b), C3)
  | .scr ns => some (.lst ((cutD ns a b).map D.int), C3)
  | _ => none
/-- the list's slice, at a new place -/
theorem slL {sx : Sv} {d : D} (hs : StR G φ M H C) (rx : SvR G φ M H x sx) (ex : see C sx = some d) {zs : List D} (lo hi : Option Int) (h : d = .lst zs ∨ ∃ ns : List Int, d = .scr ns ∧ zs = ns.map D.int) :
    ∃ vs, vs.length ≤ sizeLine ∧ RpL G M H vs (cutD zs lo hi) ∧ ∀ Q : VK, (∀ p, H p = none → Q (.ref p) (upd H p (.lst vs))) → rSlL G.K x lo hi H Q := by
  rcases h with rfl | ⟨ns, rfl, rfl⟩
  · obtain ⟨a, vs, rfl, h1, l, r⟩ := hs.seeL rx ex
    refine ⟨cutV vs lo hi, Nat.le_trans (cutV_length vs lo hi) l, r.cut lo hi, fun Q q => ⟨a, vs, rfl, .inl h1, q⟩⟩
  · have r := hs.see_rp rx ex
    cases r with
    | scr h l =>
      have r0 : ∀ ks : List Int, RpL G M H (ks.map V.int) (ks.map D.int) := fun ks => by
        induction ks with
        | nil => exact .nil
        | cons k ks ih => exact .cons (.int k) ih
      refine ⟨cutV (ns.map V.int) lo hi, Nat.le_trans (cutV_length _ lo hi) (by rw [List.length_map]; exact small_line (by omega)), (r0 ns).cut lo hi, fun Q q => ⟨_, _, rfl, h.sq, q⟩⟩
theorem cutD_map {α β : Type} (f : α → β) (xs : List α) (lo hi : Option Int) : cutD (xs.map f) lo hi = (cutD xs lo hi).map f := by
  unfold cutD
  rw [List.length_map, List.map_take, List.map_drop]
theorem sim_sl {te : TE} {tl th : TO} {f : SE} {lo hi : SO} (he : SimE G te f) (hl : SimO G tl lo) (hh : SimO G th hi) : SimE G (tSl (rSl0 G.K) te tl th) (eSl f lo hi) := by
  intro φ M H C σ ρ s C' hE hs e Q hQ
  obtain ⟨v, C1, h1, e⟩ := bnd_i e
  obtain ⟨a, C2, h2, e⟩ := bnd_i e
  obtain ⟨b, C3, h3, e⟩ := bnd_i e
  obtain ⟨d, h4, e⟩ := bn1_i e
  obtain ⟨z, h5, e⟩ := bn1_i e
  cases e
  refine he φ M H C σ ρ v C1 hE hs h1 _ fun x H1 x1 s1 r1 => ?_
  refine hl φ M H1 C1 σ ρ a C2 (hE.ext x1 hs.sub) s1 h2 _ fun H2 x2 s2 => ?_
  refine hh φ M H2 C2 σ ρ b C' (hE.ext (x1.trans x2) hs.sub) s2 h3 _ fun H3 x3 s3 => ?_
  have r3 := r1.ext (x2.trans x3) hs.sub
  have xx := (x1.trans x2).trans x3
  have newL : ∀ vs ds, vs.length ≤ sizeLine → RpL G M H3 vs ds → z = .lst ds → ∀ p, H3 p = none → Q (.ref p) (upd H3 p (.lst vs)) := fun vs ds l r ez p hp => by
    subst ez
    have x4 : Ext φ H3 (upd H3 p (.lst vs)) := Ext.laid hp
    exact hQ _ _ (xx.trans x4) (s3.laid hp) (.lst (s3.nm hp) (.inl upd_same) l (r.keeps (x4.keeps hs.sub)))
  cases d with
  | lst zs =>
    obtain ⟨vs, l, r, q⟩ := slL s3 r3 h4 a b (.inl rfl)
    exact .inl (q Q (newL vs _ l r (by cases h5; rfl)))
  | scr ns =>
    obtain ⟨vs, l, r, q⟩ := slL s3 r3 h4 a b (.inr ⟨ns, rfl, rfl⟩)
    exact .inl (q Q (newL vs _ l r (by cases h5; rw [cutD_map])))
  | tup zs =>
    cases h5
    obtain ⟨p, vs, rfl, t1, l, r⟩ := s3.seeT r3 h4
    have rc := r.cut a b
    refine .inr (.inl ⟨p, vs, rfl, t1.sq, fun hw => ?_, fun _ q hq => ?_⟩)
    · have e1 : cutV vs a b = vs := by unfold cutV; rw [hw.1, hw.2]; simp
      rw [e1] at rc
      exact hQ _ H3 xx s3 (.tup t1 l rc)
    · have x4 : Ext φ H3 (upd H3 q (.tup (cutV vs a b))) := Ext.laid hq
      exact hQ _ _ (xx.trans x4) (s3.laid hq) (.tup ⟨s3.nm hq, upd_same⟩ (Nat.le_trans (cutV_length vs a b) l) (rc.keeps (x4.keeps hs.sub)))
  | str w =>
    obtain ⟨hw, h5⟩ := gd_i h5
    cases h5
    exact .inr (.inr ⟨w, (s3.see_rp r3 h4).strI, hw, hQ _ H3 xx s3 (.str _)⟩)
  | _ => cases h5
theorem sim_nsl {te : TE} {tl th : TO} {f : SE} {lo hi : SO} (he : SimE G te f) (hl : SimO G tl lo) (hh : SimO G th hi) : SimN G (tSl (rSl0 G.K) te tl th) (nSl f lo hi) := by
  intro φ M H C σ ρ s C' hE hs e Q hQ
  obtain ⟨v, C1, h1, e⟩ := bnd_i e
  obtain ⟨a, C2, h2, e⟩ := bnd_i e
  obtain ⟨b, C3, h3, e⟩ := bnd_i e
  obtain ⟨d, h4, e⟩ := bn1_i e
  refine he φ M H C σ ρ v C1 hE hs h1 _ fun x H1 x1 s1 r1 => ?_
  refine hl φ M H1 C1 σ ρ a C2 (hE.ext x1 hs.sub) s1 h2 _ fun H2 x2 s2 => ?_
  refine hh φ M H2 C2 σ ρ b C3 (hE.ext (x1.trans x2) hs.sub) s2 h3 _ fun H3 x3 s3 => ?_
  have r3 := r1.ext (x2.trans x3) hs.sub
  have xx := (x1.trans x2).trans x3
  cases d with
  | lst zs =>
    cases e
    obtain ⟨vs, l, r, q⟩ := slL s3 r3 h4 a b (.inl rfl)
    exact .inl (q Q fun p hp => hQ p _ (xx.none_ hp) (xx.trans (Ext.laid hp)) (s3.laidM hp) (CelR.newL s3 hp l r))
  | scr ns =>
    cases e
    obtain ⟨vs, l, r, q⟩ := slL s3 r3 h4 a b (.inr ⟨ns, rfl, rfl⟩)
    rw [cutD_map] at r
    exact .inl (q Q fun p hp => hQ p _ (xx.none_ hp) (xx.trans (Ext.laid hp)) (s3.laidM hp) (CelR.newL s3 hp l r))
  | _ => cases e
end
end DX

/-! DBlt: built-ins over data. -/
namespace DX
open PySem PySem.Spec L2

/-! ### len -/
def rLenD : List V → Hp → VK → Prop := fun xs H Q => ∃ a kvs, xs = [.ref a] ∧ Rd H a (.dK kvs) ∧ Q (.int (kvs.length : Nat)) H
theorem call_lenDK {X : Cx} : CallR X (.builtin "len") rLenD := by
  intro pins s σ H xs us Q I r h
  obtain ⟨a, kvs, rfl, e, q⟩ := h
  obtain ⟨u, rfl, rx⟩ := vals1 r
  cases rx
  exact d_len I e fun t s' I' => ⟨.int _, H, I', ⟨t, rfl⟩, q⟩
def rLen0 (K : PySem.W.Frag) : List V → Hp → VK → Prop := fun xs H Q => (∃ x n, xs = [x] ∧ LenV K x H n ∧ Q (.int n) H) ∨ rLenD xs H Q
theorem call_len0 {X : Cx} : CallR X (.builtin "len") (rLen0 X.K) := call_len.or call_lenDK
def dLen : List D → Option D
  | [.lst xs] => some (.int (xs.length : Nat))
  | [.tup xs] => some (.int (xs.length : Nat))
  | [.kt xs] => some (.int (xs.length : Nat))
  | [.scr ns] => some (.int (ns.length : Nat))
  | [.dK kvs] => some (.int (kvs.length : Nat))
  | [.str z] => gd (z.length ≤ sizeLine) (some (.int (z.length : Nat)))
  | _ => none
section
variable {G : Gm} {φ : List Addr} {M : Addr → Prop} {H : Hp} {C : Store} {x y : V} {s : Sv}
theorem sees1 {ss : List Sv} {xs : List V} {d : D} (r : SvsR G φ M H xs ss) (e : sees C ss = some [d]) : ∃ x s, xs = [x] ∧ ss = [s] ∧ SvR G φ M H x s ∧ see C s = some d := by
  cases r with
  | nil => cases e
  | cons r t =>
    unfold sees at e
    obtain ⟨d', h1, e⟩ := bn1_i e
    obtain ⟨ds, h2, e⟩ := bn1_i e
    cases e
    cases t with
    | nil => exact ⟨_, _, rfl, rfl, r, h1⟩
    | cons r2 t2 =>
      unfold sees at h2
      obtain ⟨_, _, h2⟩ := bn1_i h2
      obtain ⟨_, _, h2⟩ := bn1_i h2
      cases h2
theorem sees2 {ss : List Sv} {xs : List V} {d e' : D} (r : SvsR G φ M H xs ss) (e : sees C ss = some [d, e']) : ∃ x y s t, xs = [x, y] ∧ ss = [s, t] ∧ SvR G φ M H x s ∧ SvR G φ M H y t ∧ see C s = some d ∧ see C t = some e' := by
  cases r with
  | nil => cases e
  | cons r t =>
    unfold sees at e
    obtain ⟨d', h1, e⟩ := bn1_i e
    obtain ⟨ds, h2, e⟩ := bn1_i e
    cases e
    obtain ⟨y, s2, rfl, rfl, r2, h3⟩ := sees1 t h2
    exact ⟨_, _, _, _, rfl, rfl, r, r2, h1, h3⟩
/-- lists, by their one argument -/
theorem sim1s_one {r : List V → Hp → VK → Prop} {g : List D → Option D} (h0 : ∀ ds z, g ds = some z → ∃ d, ds = [d])
    (h : ∀ φ M H C x s d z, StR G φ M H C → SvR G φ M H x s → see C s = some d → g [d] = some z → ∀ Q : VK, (∀ v H', Ext φ H H' → StR G φ M H' C → Rp G M H' v z → Q v H') → r [x] H Q) : Sim1s G r g := by
  intro φ M H C xs ss ds z hs rr e hg Q hQ
  obtain ⟨d, rfl⟩ := h0 ds z hg
  obtain ⟨x, s, rfl, rfl, r1, h1⟩ := sees1 rr e
  exact h φ M H C x s d z hs r1 h1 hg Q hQ
theorem StR.seeKT {ds : List D} (st : StR G φ M H C) (r : SvR G φ M H x s) (e : see C s = some (.kt ds)) : ∃ a vs, x = .ref a ∧ (∀ H', SqT G.K H' a vs) ∧ RpL G M H vs ds := by
  rcases st.see_rd r e with ⟨_, h⟩ | ⟨n, a, c, _, rfl, _, _, hu, h⟩
  · cases h with
    | kt h r => exact ⟨_, _, rfl, h, r⟩
  · cases c with
    | lk d =>
      have hu' : D.kt ds = d := hu
      subst hu'
      exact h.elim
    | kt _ => exact h.elim
    | _ => cases hu
theorem StR.seeDK {ds : List (Key × D)} (st : StR G φ M H C) (r : SvR G φ M H x s) (e : see C s = some (.dK ds)) : ∃ a kvs, x = .ref a ∧ Rd H a (.dK kvs) ∧ kvs.length ≤ sizeLine ∧ kvs.map (·.1) = ds.map (·.1) ∧ RpL G M H (kvs.map (·.2)) (ds.map (·.2)) := by
  rcases st.see_rd r e with ⟨_, h⟩ | ⟨n, a, c, _, rfl, _, _, hu, h⟩
  · cases h with
    | dK n h l e r => exact ⟨_, _, rfl, h, l, e, r⟩
  · cases c with
    | dK ds' => cases hu; obtain ⟨kvs, h1, h2, h3, h4⟩ := h; exact ⟨a, kvs, rfl, .inl h1, h2, h3, h4⟩
    | lk z =>
      have hu' : D.dK ds = z := hu
      subst hu'
      obtain ⟨od, kvs, h1, h2, h3, h4⟩ := h
      exact ⟨a, kvs, rfl, .inr ⟨od, h1⟩, h2, h3, h4⟩
    | _ => cases hu
theorem StR.seeDT {ds : List (List Key × D)} (st : StR G φ M H C) (r : SvR G φ M H x s) (e : see C s = some (.dT ds)) : ∃ a kvs, x = .ref a ∧ Rd H a (.dT kvs) ∧ kvs.length ≤ sizeLine ∧ kvs.map (·.1) = ds.map (·.1) ∧ RpL G M H (kvs.map (·.2)) (ds.map (·.2)) := by
  rcases st.see_rd r e with ⟨_, h⟩ | ⟨n, a, c, _, rfl, _, _, hu, h⟩
  · cases h with
    | dT n h l e r => exact ⟨_, _, rfl, h, l, e, r⟩
  · cases c with
    | dT ds' => cases hu; obtain ⟨kvs, h1, h2, h3, h4⟩ := h; exact ⟨a, kvs, rfl, .inl h1, h2, h3, h4⟩
    | lk z =>
      have hu' : D.dT ds = z := hu
      subst hu'
      obtain ⟨od, kvs, h1, h2, h3, h4⟩ := h
      exact ⟨a, kvs, rfl, .inr ⟨od, h1⟩, h2, h3, h4⟩
    | _ => cases hu
theorem lenKeys {κ α β : Type} {kvs : List (κ × α)} {ds : List (κ × β)} (h : kvs.map (·.1) = ds.map (·.1)) : kvs.length = ds.length := by
  have := congrArg List.length h
  simpa using this
theorem one_of {g : List D → Option D} {ds : List D} {z : D} (h : g ds = some z) (h0 : g [] = none) (h2 : ∀ a b r, g (a :: b :: r) = none) : ∃ d, ds = [d] := by
  cases ds with
  | nil => rw [h0] at h; cases h
  | cons d r => cases r with
    | nil => exact ⟨d, rfl⟩
    | cons b r => rw [h2] at h; cases h
theorem sim1_len : Sim1s G (rLen0 G.K) dLen := by
  refine sim1s_one (fun ds z h => one_of h rfl fun a b r => by cases a <;> rfl) ?_
  intro φ M H C x s d z hs r e hg Q hQ
  cases d with
  | lst xs =>
    cases hg
    obtain ⟨a, vs, rfl, h1, l, r1⟩ := hs.seeL r e
    exact .inl ⟨_, _, rfl, .inl ⟨vs, .inl h1, rfl⟩, by rw [r1.length]; exact hQ _ H Ext.refl hs (.int _)⟩
  | tup xs =>
    cases hg
    obtain ⟨a, vs, rfl, h1, l, r1⟩ := hs.seeT r e
    exact .inl ⟨_, _, rfl, .inr ⟨vs, h1.sq, rfl⟩, by rw [r1.length]; exact hQ _ H Ext.refl hs (.int _)⟩
  | kt xs =>
    cases hg
    obtain ⟨a, vs, rfl, h1, r1⟩ := hs.seeKT r e
    exact .inl ⟨_, _, rfl, .inr ⟨vs, h1 H, rfl⟩, by rw [r1.length]; exact hQ _ H Ext.refl hs (.int _)⟩
  | scr ns =>
    cases hg
    have r1 := hs.see_rp r e
    cases r1 with
    | scr h l => exact .inl ⟨_, _, rfl, .inl ⟨_, h.sq, rfl⟩, by rw [List.length_map]; exact hQ _ H Ext.refl hs (.int _)⟩
  | dK kvs =>
    cases hg
    obtain ⟨a, vs, rfl, h1, l, h2, r1⟩ := hs.seeDK r e
    exact .inr ⟨a, vs, rfl, h1, by rw [lenKeys h2]; exact hQ _ H Ext.refl hs (.int _)⟩
  | str z =>
    obtain ⟨h1, hg⟩ := gd_i (show gd _ _ = some _ from hg)
    cases hg
    have ex := (hs.see_rp r e).strI
    subst ex
    exact .inl ⟨.str z, z.length, rfl, ⟨h1, rfl⟩, hQ _ H Ext.refl hs (.int _)⟩
  | _ => cases hg
theorem sim_len {ta : TA} {a : SA} (ha : SimA G ta a) : SimE G (tCB (rLen0 G.K) ta) (eB dLen a) := sim_b sim1_len ha

/-! ### abs, int -/
def dAbs : List D → Option D
  | [.int i] => some (.int (if i < 0 then -i else i))
  | _ => none
theorem sim_abs {ta : TA} {a : SA} (ha : SimA G ta a) : SimE G (tCB (fun xs H Q => ∃ i, xs = [.int i] ∧ Q (.int (if i < 0 then -i else i)) H) ta) (eB dAbs a) := by
  refine sim_b (sim1s_one (fun ds z h => one_of h rfl fun a b r => by cases a <;> rfl) ?_) ha
  intro φ M H C x s d z hs r e hg Q hQ
  cases d with
  | int i => cases hg; exact ⟨i, by rw [(hs.see_rp r e).intI], hQ _ H Ext.refl hs (.int _)⟩
  | _ => cases hg
def dInt : List D → Option D
  | [.int i] => some (.int i)
  | [.bl b] => some (.int (if b = true then 1 else 0))
  | _ => none
theorem sim_int' {ta : TA} {a : SA} (ha : SimA G ta a) : SimE G (tCB (fun xs H Q => (∃ i, xs = [.int i] ∧ Q (.int i) H) ∨ ∃ k, xs = [.bl k] ∧ Q (.int (if k then 1 else 0)) H) ta) (eB dInt a) := by
  refine sim_b (sim1s_one (fun ds z h => one_of h rfl fun a b r => by cases a <;> rfl) ?_) ha
  intro φ M H C x s d z hs r e hg Q hQ
  cases d with
  | int i => cases hg; exact .inl ⟨i, by rw [(hs.see_rp r e).intI], hQ _ H Ext.refl hs (.int _)⟩
  | bl i => cases hg; exact .inr ⟨i, by rw [(hs.see_rp r e).blI], hQ _ H Ext.refl hs (.int _)⟩
  | _ => cases hg

/-! ### list(..), tuple(..) -/
abbrev rListOf (K : PySem.W.Frag) : List V → Hp → VK → Prop := fun xs H Q => ∃ p ys, xs = [.ref p] ∧ (SqL K H p ys ∨ SqT K H p ys) ∧ ∀ l, H l = none → Q (.ref l) (upd H l (.lst ys))
def dList : List D → Option D
  | [.lst xs] => some (.lst xs)
  | [.tup xs] => some (.lst xs)
  | _ => none
theorem sim_nlist {ta : TA} {a : SA} (ha : SimA G ta a) : SimN G (tCB (rListOf G.K) ta) (nB dList a) := by
  intro φ M H C σ ρ s C' he hs e Q hQ
  obtain ⟨ss, C1, h1, e⟩ := bnd_i e
  obtain ⟨ds, h2, e⟩ := bn1_i e
  obtain ⟨z, h3, e⟩ := bn1_i e
  cases e
  refine ha φ M H C σ ρ ss C' he hs h1 _ fun xs H1 x1 s1 r1 => ?_
  obtain ⟨d, rfl⟩ := one_of h3 rfl fun a b r => by cases a <;> rfl
  obtain ⟨x, s, rfl, rfl, r2, h4⟩ := sees1 r1 h2
  cases d with
  | lst xs =>
    cases h3
    obtain ⟨p, vs, rfl, t1, l, r⟩ := s1.seeL r2 h4
    exact ⟨p, vs, rfl, .inl (.inl t1), fun q hq => hQ q _ (x1.none_ hq) (x1.trans (Ext.laid hq)) (s1.laidM hq) (CelR.newL s1 hq l r)⟩
  | tup xs =>
    cases h3
    obtain ⟨p, vs, rfl, t1, l, r⟩ := s1.seeT r2 h4
    exact ⟨p, vs, rfl, .inr t1.sq, fun q hq => hQ q _ (x1.none_ hq) (x1.trans (Ext.laid hq)) (s1.laidM hq) (CelR.newL s1 hq l r)⟩
  | _ => cases h3
abbrev rTupOf (K : PySem.W.Frag) : List V → Hp → VK → Prop := fun xs H Q => ∃ p ys, xs = [.ref p] ∧ ((SqL K H p ys ∧ ∀ l, H l = none → Q (.ref l) (upd H l (.tup ys))) ∨ (SqT K H p ys ∧ Q (.ref p) H))
def dTuple : List D → Option D
  | [.lst xs] => some (.tup xs)
  | [.tup xs] => some (.tup xs)
  | _ => none
theorem sim_tuple {ta : TA} {a : SA} (ha : SimA G ta a) : SimE G (tCB (rTupOf G.K) ta) (eB dTuple a) := by
  refine sim_b (sim1s_one (fun ds z h => one_of h rfl fun a b r => by cases a <;> rfl) ?_) ha
  intro φ M H C x s d z hs r e hg Q hQ
  cases d with
  | lst xs =>
    cases hg
    obtain ⟨p, vs, rfl, t1, l, r⟩ := hs.seeL r e
    refine ⟨p, vs, rfl, .inl ⟨.inl t1, fun q hq => ?_⟩⟩
    have x4 : Ext φ H (upd H q (.tup vs)) := Ext.laid hq
    exact hQ _ _ x4 (hs.laid hq) (.tup ⟨hs.nm hq, upd_same⟩ l (r.keeps (x4.keeps hs.sub)))
  | tup xs =>
    cases hg
    obtain ⟨p, vs, rfl, t1, l, r⟩ := hs.seeT r e
    exact ⟨p, vs, rfl, .inr ⟨t1.sq, hQ _ H Ext.refl hs (.tup t1 l r)⟩⟩
  | _ => cases hg

/-! ### all, any -/
def dBools : List D → Option (List Bool)
  | [] => some []
  | .bl b :: ds => bn1 (dBools ds) fun bs => some (b :: bs)
  | _ :: _ => none
theorem dBools_some : ∀ {ds : List D} {bs : List Bool}, dBools ds = some bs → ds = bs.map D.bl
  | [], bs, h => by cases h; rfl
  | .bl b :: ds, bs, h => by
    unfold dBools at h
    obtain ⟨bs', h1, h⟩ := bn1_i h
    cases h
    rw [dBools_some h1]; rfl
  | .non :: _, _, h => by cases h
  | .int _ :: _, _, h => by cases h
  | .str _ :: _, _, h => by cases h
  | .tup _ :: _, _, h => by cases h
  | .lst _ :: _, _, h => by cases h
  | .dK _ :: _, _, h => by cases h
  | .dT _ :: _, _, h => by cases h
  | .ins _ _ :: _, _, h => by cases h
  | .scr _ :: _, _, h => by cases h
  | .kt _ :: _, _, h => by cases h
  | .lk _ :: _, _, h => by cases h
@[simp] theorem dBools_map (bs : List Bool) : dBools (bs.map D.bl) = some bs := by
  induction bs with
  | nil => rfl
  | cons b bs ih => simp [dBools, ih]
def dAll : List D → Option D
  | [.lst xs] => bn1 (dBools xs) fun bs => some (.bl (bs.all id))
  | _ => none
def dAny : List D → Option D
  | [.lst xs] => bn1 (dBools xs) fun bs => some (.bl (bs.any id))
  | _ => none
theorem sim_all {ta : TA} {a : SA} (ha : SimA G ta a) : SimE G (tCB (rAll G.K) ta) (eB dAll a) := by
  refine sim_b (sim1s_one (fun ds z h => one_of h rfl fun a b r => by cases a <;> rfl) ?_) ha
  intro φ M H C x s d z hs r e hg Q hQ
  cases d with
  | lst xs =>
    obtain ⟨bs, h1, hg⟩ := bn1_i (show bn1 (dBools xs) _ = some z from hg)
    cases hg
    have ex := dBools_some h1
    subst ex
    obtain ⟨p, vs, rfl, t1, l, r⟩ := hs.seeL r e
    have ev := r.bls
    subst ev
    exact ⟨p, bs, rfl, .inl t1, hQ _ H Ext.refl hs (.bl _)⟩
  | _ => cases hg
theorem sim_any {ta : TA} {a : SA} (ha : SimA G ta a) : SimE G (tCB (rAny G.K) ta) (eB dAny a) := by
  refine sim_b (sim1s_one (fun ds z h => one_of h rfl fun a b r => by cases a <;> rfl) ?_) ha
  intro φ M H C x s d z hs r e hg Q hQ
  cases d with
  | lst xs =>
    obtain ⟨bs, h1, hg⟩ := bn1_i (show bn1 (dBools xs) _ = some z from hg)
    cases hg
    have ex := dBools_some h1
    subst ex
    obtain ⟨p, vs, rfl, t1, l, r⟩ := hs.seeL r e
    have ev := r.bls
    subst ev
    exact ⟨p, bs, rfl, .inl t1, hQ _ H Ext.refl hs (.bl _)⟩
  | _ => cases hg
/-! ### sum -/
def dInts : List D → Option (List Int)
  | [] => some []
  | .int b :: ds => bn1 (dInts ds) fun bs => some (b :: bs)
  | _ :: _ => none
theorem dInts_some : ∀ {ds : List D} {bs : List Int}, dInts ds = some bs → ds = bs.map D.int
  | [], bs, h => by cases h; rfl
  | .int b :: ds, bs, h => by
    unfold dInts at h
    obtain ⟨bs', h1, h⟩ := bn1_i h
    cases h
    rw [dInts_some h1]; rfl
  | .non :: _, _, h => by cases h
  | .bl _ :: _, _, h => by cases h
  | .str _ :: _, _, h => by cases h
  | .tup _ :: _, _, h => by cases h
  | .lst _ :: _, _, h => by cases h
  | .dK _ :: _, _, h => by cases h
  | .dT _ :: _, _, h => by cases h
  | .ins _ _ :: _, _, h => by cases h
  | .scr _ :: _, _, h => by cases h
  | .kt _ :: _, _, h => by cases h
  | .lk _ :: _, _, h => by cases h
@[simp] theorem dInts_map (bs : List Int) : dInts (bs.map D.int) = some bs := by
  induction bs with
  | nil => rfl
  | cons b bs ih => simp [dInts, ih]
def dSum : List D → Option D
  | [.lst xs] => bn1 (dInts xs) fun bs => some (.int bs.sum)
  | _ => none
theorem sim_sum {ta : TA} {a : SA} (ha : SimA G ta a) : SimE G (tCB (rSum G.K) ta) (eB dSum a) := by
  refine sim_b (sim1s_one (fun ds z h => one_of h rfl fun a b r => by cases a <;> rfl) ?_) ha
  intro φ M H C x s d z hs r e hg Q hQ
  cases d with
  | lst xs =>
    obtain ⟨bs, h1, hg⟩ := bn1_i (show bn1 (dInts xs) _ = some z from hg)
    cases hg
    have ex := dInts_some h1
    subst ex
    obtain ⟨p, vs, rfl, t1, l, r⟩ := hs.seeL r e
    have ev := r.ints
    subst ev
    exact ⟨p, bs, rfl, .inl t1, hQ _ H Ext.refl hs (.int _)⟩
  | _ => cases hg

/-! ### isinstance -/
inductive Ty where
  | int | str | bool | list | tuple | dict
def tyN : Ty → String
  | .int => "int" | .str => "str" | .bool => "bool" | .list => "list" | .tuple => "tuple" | .dict => "dict"
def isTy (d : D) (t : Ty) : Option Bool := match d with
  | .non => some false
  | .bl _ => match t with | .bool => some true | .int => some true | _ => some false
  | .int _ => match t with | .int => some true | _ => some false
  | .str _ => match t with | .str => some true | _ => some false
  | .tup _ => match t with | .tuple => some true | _ => some false
  | .lst _ => match t with | .list => some true | _ => some false
  | .dK _ => match t with | .dict => some true | _ => some false
  | _ => none
def tyD : D → String
  | .non => "NoneType" | .bl _ => "bool" | .int _ => "int" | .str _ => "str" | .tup _ => "tuple" | .lst _ => "list" | _ => "dict"
theorem kit_all : ∀ (d : D) (t : Ty) (b : Bool), isTy d t = some b → kitB (tyD d) (tyN t) = some b := by
  have h : ∀ (t : Ty), kitB "NoneType" (tyN t) = some false ∧ kitB "bool" (tyN t) = some (match t with | .bool => true | .int => true | _ => false) ∧ kitB "int" (tyN t) = some (match t with | .int => true | _ => false) ∧
      kitB "str" (tyN t) = some (match t with | .str => true | _ => false) ∧ kitB "tuple" (tyN t) = some (match t with | .tuple => true | _ => false) ∧ kitB "list" (tyN t) = some (match t with | .list => true | _ => false) ∧ kitB "dict" (tyN t) = some (match t with | .dict => true | _ => false) := by
    intro t
    cases t <;> decide +kernel
  intro d t b hb
  obtain ⟨h1, h2, h3, h4, h5, h6, h7⟩ := h t
  cases d <;> simp only [isTy, tyD] at hb ⊢ <;> first | (cases hb; assumption) | (cases t <;> (cases hb; assumption)) | cases hb
theorem Rp.ty {v : V} {d : D} {t : Ty} {b : Bool} (r : Rp G M H v d) (ht : isTy d t = some b) : TyX G.K H v (.type (tyD d)) := by
  cases r with
  | non => exact .base .non
  | bl b => exact .base (.bl b)
  | int i => exact .base (.int i)
  | str x => exact .base (.str x)
  | tup h l r => exact .base (.tup h.2)
  | lst n h l r =>
    rcases h with h | ⟨o, h⟩
    · exact .base (.lst h)
    · exact .base (.frz h)
  | dK n h l e r =>
    rcases h with h | ⟨o, h⟩
    · exact .base (.dK h)
    · exact .fDict h
  | dT n h l e r => cases ht
  | ins a b c d e f => cases ht
  | kt a b => cases ht
  | scr a b => cases ht
def eIsi (t : Ty) (f : SE) : SE := fun ρ C => bnd (f ρ C) fun v C1 => bn1 (see C1 v) fun d => bn1 (isTy d t) fun b => some (.dat (.bl b), C1)
theorem sim_isi {t : Ty} {te : TE} {f : SE} (he : SimE G te f) : SimE G (tCB (rIsi G.K) (tCons te (tCons (tC (.ty (tyN t))) tNil))) (eIsi t f) := by
  intro φ M H C σ ρ s C' hE hs e Q hQ
  obtain ⟨v, C1, h1, e⟩ := bnd_i e
  obtain ⟨d, h2, e⟩ := bn1_i e
  obtain ⟨b, h3, e⟩ := bn1_i e
  cases e
  refine he φ M H C σ ρ v C' hE hs h1 _ fun x H1 x1 s1 r1 => ?_
  exact ⟨x, _, _, _, b, rfl, .ty _, (s1.see_rp r1 h2).ty h3, kit_ty (kit_all d t b h3), hQ _ H1 x1 s1 (.bl b)⟩
/-- isinstance(x, (list, tuple)) -/
def eIsi2 (t u : Ty) (f : SE) : SE := fun ρ C => bnd (f ρ C) fun v C1 => bn1 (see C1 v) fun d => bn1 (isTy d t) fun b => bn1 (isTy d u) fun c => some (.dat (.bl (b || c)), C1)
theorem sim_isi2 {t u : Ty} {te : TE} {f : SE} (he : SimE G te f) : SimE G (tCB (rIsiT G.K) (tCons te (tCons (tTup (tCons (tC (.ty (tyN t))) (tCons (tC (.ty (tyN u))) tNil))) tNil))) (eIsi2 t u f) := by
  intro φ M H C σ ρ s C' hE hs e Q hQ
  obtain ⟨v, C1, h1, e⟩ := bnd_i e
  obtain ⟨d, h2, e⟩ := bn1_i e
  obtain ⟨b, h3, e⟩ := bn1_i e
  obtain ⟨c, h4, e⟩ := bn1_i e
  cases e
  refine he φ M H C σ ρ v C' hE hs h1 _ fun x H1 x1 s1 r1 => ?_
  refine ⟨by show 2 ≤ sizeLine; rw [sizeLine_eq]; omega, fun p hp => ?_⟩
  have x2 : Ext φ H1 (upd H1 p (.tup [.ty (tyN t), .ty (tyN u)])) := Ext.laid hp
  have s2 := s1.laid (o := .tup [.ty (tyN t), .ty (tyN u)]) hp
  have r2 := r1.ext x2 hs.sub
  refine ⟨x, p, [.ty (tyN t), .ty (tyN u)], _, [.type (tyN t), .type (tyN u)], b || c, rfl, upd_same, .cons (.ty _) (.cons (.ty _) .nil), (s2.see_rp r2 h2).ty h3, ?_, hQ _ _ (x1.trans x2) s2 (.bl _)⟩
  refine kitAny_cons (kit_ty (kit_all d t b h3)) (fun hb => ?_) (fun hb => by rw [hb]; rfl)
  rw [hb]
  refine kitAny_cons (kit_ty (kit_all d u c h4)) (fun hc => ?_) (fun hc => by rw [hc]; rfl)
  rw [hc]
  exact kitAny_nil
end
end DX

/-! DTst: tests. -/
namespace DX
open PySem PySem.Spec L2
section
variable {G : Gm} {ta tb te : TE} {f g : SE} {t u : TT} {p q : ST}
theorem sim_tTest (he : SimE G te f) : SimT G (tTest te) (tB' f) := by
  intro φ M H C σ ρ b C' hE hs e Q hQ
  obtain ⟨v, C1, h1, e⟩ := bnd_i e
  refine he φ M H C σ ρ v C1 hE hs h1 _ fun x H1 x1 s1 r1 => ?_
  cases v with
  | dat d =>
    cases d with
    | bl k => cases e; exact ⟨_, Rp.blI r1, hQ H1 x1 s1⟩
    | _ => cases e
  | cel n => cases e
theorem sim_tB (he : SimE G te f) : SimT G (tB te) (tB' f) := sim_tTest he
theorem sim_tAnd (h1 : SimT G t p) (h2 : SimT G u q) : SimT G (tAnd t u) (tAnd' p q) := by
  intro φ M H C σ ρ b C' hE hs e Q hQ
  obtain ⟨c, C1, q1, e⟩ := bnd_i e
  refine h1 φ M H C σ ρ c C1 hE hs q1 _ fun H1 x1 s1 => ?_
  cases c with
  | true => exact h2 φ M H1 C1 σ ρ b C' (hE.ext x1 hs.sub) s1 e Q fun H2 x2 s2 => hQ H2 (x1.trans x2) s2
  | false => cases e; exact hQ H1 x1 s1
theorem sim_tOr (h1 : SimT G t p) (h2 : SimT G u q) : SimT G (tOr t u) (tOr' p q) := by
  intro φ M H C σ ρ b C' hE hs e Q hQ
  obtain ⟨c, C1, q1, e⟩ := bnd_i e
  refine h1 φ M H C σ ρ c C1 hE hs q1 _ fun H1 x1 s1 => ?_
  cases c with
  | false => exact h2 φ M H1 C1 σ ρ b C' (hE.ext x1 hs.sub) s1 e Q fun H2 x2 s2 => hQ H2 (x1.trans x2) s2
  | true => cases e; exact hQ H1 x1 s1
theorem sim_tNot (h1 : SimT G t p) : SimT G (tNot t) (tNot' p) := by
  intro φ M H C σ ρ b C' hE hs e Q hQ
  obtain ⟨c, C1, q1, e⟩ := bnd_i e
  cases e
  exact h1 φ M H C σ ρ c C' hE hs q1 _ fun H1 x1 s1 => hQ H1 x1 s1
theorem tru_ok' {φ : List Addr} {M : Addr → Prop} {H : Hp} {C : Store} {x : V} {s : Sv} {d : D} {k : Bool} (hs : StR G φ M H C) (r : SvR G φ M H x s) (e : see C s = some d) (h : truD d = some k) : TruV G.K x H k := by
  cases d with
  | non => cases h; rw [(hs.see_rp r e).nonI]; exact rfl
  | bl b => cases h; rw [(hs.see_rp r e).blI]; exact rfl
  | int b => cases h; rw [(hs.see_rp r e).intI]; exact rfl
  | str b =>
    have h' : (if b.length ≤ sizeLine then some ((b.length : Int) != 0) else none) = some k := h
    by_cases hc : b.length ≤ sizeLine
    · rw [if_pos hc] at h'
      cases h'
      rw [(hs.see_rp r e).strI]
      exact ⟨hc, rfl⟩
    · rw [if_neg hc] at h'; cases h'
  | tup xs =>
    cases h
    obtain ⟨a, vs, rfl, h1, l, r1⟩ := hs.seeT r e
    refine .inr (.inl ⟨vs, h1.sq, ?_⟩)
    cases r1 <;> rfl
  | lst xs =>
    cases h
    obtain ⟨a, vs, rfl, h1, l, r1⟩ := hs.seeL r e
    refine .inl ⟨vs, .inl h1, ?_⟩
    cases r1 <;> rfl
  | _ => cases h
theorem sim_tTru (he : SimE G te f) : SimT G (fun σ H Q => te σ H fun x H' => ∃ k, TruV G.K x H' k ∧ Q k H') (tTru f) := by
  intro φ M H C σ ρ b C' hE hs e Q hQ
  obtain ⟨v, C1, h1, e⟩ := bnd_i e
  obtain ⟨d, h2, e⟩ := bn1_i e
  obtain ⟨k, h3, e⟩ := bn1_i e
  cases e
  refine he φ M H C σ ρ v C' hE hs h1 _ fun x H1 x1 s1 r1 => ⟨b, tru_ok' s1 r1 h2 h3, hQ H1 x1 s1⟩
theorem sim_tIf (hc : SimT G t p) (ha : SimE G ta f) (hb : SimE G tb g) : SimE G (tIf t ta tb) (eIf p f g) := by
  intro φ M H C σ ρ s C' hE hs e Q hQ
  obtain ⟨c, C1, q1, e⟩ := bnd_i e
  refine hc φ M H C σ ρ c C1 hE hs q1 _ fun H1 x1 s1 => ?_
  cases c with
  | true => exact ha φ M H1 C1 σ ρ s C' (hE.ext x1 hs.sub) s1 e Q fun v H2 x2 s2 r2 => hQ v H2 (x1.trans x2) s2 r2
  | false => exact hb φ M H1 C1 σ ρ s C' (hE.ext x1 hs.sub) s1 e Q fun v H2 x2 s2 r2 => hQ v H2 (x1.trans x2) s2 r2
theorem sim_nIf {f g : SN} (hc : SimT G t p) (ha : SimN G ta f) (hb : SimN G tb g) : SimN G (tIf t ta tb) (nIf p f g) := by
  intro φ M H C σ ρ s C' hE hs e Q hQ
  obtain ⟨c, C1, q1, e⟩ := bnd_i e
  refine hc φ M H C σ ρ c C1 hE hs q1 _ fun H1 x1 s1 => ?_
  cases c with
  | true => exact ha φ M H1 C1 σ ρ s C' (hE.ext x1 hs.sub) s1 e Q fun v H2 q2 x2 s2 r2 => hQ v H2 (x1.none_ q2) (x1.trans x2) s2 r2
  | false => exact hb φ M H1 C1 σ ρ s C' (hE.ext x1 hs.sub) s1 e Q fun v H2 q2 x2 s2 r2 => hQ v H2 (x1.none_ q2) (x1.trans x2) s2 r2
theorem sim_andV (ha : SimE G ta f) (hb : SimE G tb g) : SimE G (tAndV ta tb) (eAndV f g) := by
  intro φ M H C σ ρ s C' hE hs e Q hQ
  obtain ⟨v, C1, q1, e⟩ := bnd_i e
  refine ha φ M H C σ ρ v C1 hE hs q1 _ fun x H1 x1 s1 r1 => ?_
  cases v with
  | dat d =>
    cases d with
    | bl k =>
      refine ⟨k, Rp.blI r1, ?_⟩
      cases k with
      | true => exact hb φ M H1 C1 σ ρ s C' (hE.ext x1 hs.sub) s1 e Q fun v H2 x2 s2 r2 => hQ v H2 (x1.trans x2) s2 r2
      | false => cases e; exact hQ _ H1 x1 s1 (Rp.bl _)
    | _ => cases e
  | cel n => cases e
theorem sim_orV (ha : SimE G ta f) (hb : SimE G tb g) : SimE G (tOrV ta tb) (eOrV f g) := by
  intro φ M H C σ ρ s C' hE hs e Q hQ
  obtain ⟨v, C1, q1, e⟩ := bnd_i e
  refine ha φ M H C σ ρ v C1 hE hs q1 _ fun x H1 x1 s1 r1 => ?_
  cases v with
  | dat d =>
    cases d with
    | bl k =>
      refine ⟨k, Rp.blI r1, ?_⟩
      cases k with
      | false => exact hb φ M H1 C1 σ ρ s C' (hE.ext x1 hs.sub) s1 e Q fun v H2 x2 s2 r2 => hQ v H2 (x1.trans x2) s2 r2
      | true => cases e; exact hQ _ H1 x1 s1 (Rp.bl _)
    | _ => cases e
  | cel n => cases e
theorem sim_notV (ha : SimE G ta f) : SimE G (tNotV ta) (eNotV f) := by
  intro φ M H C σ ρ s C' hE hs e Q hQ
  obtain ⟨v, C1, q1, e⟩ := bnd_i e
  refine ha φ M H C σ ρ v C1 hE hs q1 _ fun x H1 x1 s1 r1 => ?_
  cases v with
  | dat d =>
    cases d with
    | bl k => cases e; exact ⟨k, Rp.blI r1, hQ _ H1 x1 s1 (Rp.bl _)⟩
    | _ => cases e
  | cel n => cases e
/-- x or y, new lists both: the one that is not empty -/
def nOrT (f g : SN) : SN := fun ρ C => bnd (f ρ C) fun d C1 => match d with
  | .lst [] => g ρ C1
  | .lst (x :: xs) => some (.lst (x :: xs), C1)
  | _ => none
theorem sim_nOrT {f g : SN} (ha : SimN G ta f) (hb : SimN G tb g) : SimN G (tOrT G.K ta tb) (nOrT f g) := by
  intro φ M H C σ ρ s C' hE hs e Q hQ
  obtain ⟨d, C1, q1, e⟩ := bnd_i e
  refine ha φ M H C σ ρ d C1 hE hs q1 _ fun p H1 hp x1 s1 r1 => ?_
  cases d with
  | lst xs =>
    cases xs with
    | nil =>
      obtain ⟨vs, h1, h2, h3⟩ := r1
      cases h3
      exact ⟨false, .inl ⟨[], .inl (.inl h1), rfl⟩, hb φ M H1 C1 σ ρ s C' (hE.ext x1 hs.sub) (s1.less (fun _ h => .inl h) hs.sub) e Q fun v H2 q2 x2 s2 r2 => hQ v H2 (x1.none_ q2) (x1.trans x2) s2 r2⟩
    | cons x xs =>
      have e' : some (D.lst (x :: xs), C1) = some (s, C') := e
      cases e'
      refine ⟨true, ?_, hQ p H1 hp x1 s1 r1⟩
      obtain ⟨vs, h1, h2, h3⟩ := r1
      refine .inl ⟨vs, .inl (.inl h1), ?_⟩
      cases h3; rfl
  | _ => cases e
end
end DX

/-! DIt: what a loop or a comprehension goes over; targets. -/
namespace DX
open PySem PySem.Spec L2

mutual
def sameD : D → D → Bool
  | .non, .non => true
  | .bl a, .bl b => decide (a = b)
  | .int a, .int b => decide (a = b)
  | .str a, .str b => decide (a = b)
  | .tup a, .tup b => sameL a b
  | .lst a, .lst b => sameL a b
  | .dK a, .dK b => sameK a b
  | .dT a, .dT b => sameT a b
  | .ins c a, .ins d b => decide (c = d) && sameF a b
  | .scr a, .scr b => decide (a = b)
  | .kt a, .kt b => sameL a b
  | .lk a, .lk b => sameD a b
  | _, _ => false
def sameL : List D → List D → Bool
  | [], [] => true
  | a :: as, b :: bs => sameD a b && sameL as bs
  | _, _ => false
def sameK : List (Key × D) → List (Key × D) → Bool
  | [], [] => true
  | (k, a) :: as, (l, b) :: bs => decide (k = l) && sameD a b && sameK as bs
  | _, _ => false
def sameT : List (List Key × D) → List (List Key × D) → Bool
  | [], [] => true
  | (k, a) :: as, (l, b) :: bs => decide (k = l) && sameD a b && sameT as bs
  | _, _ => false
def sameF : List (Str × D) → List (Str × D) → Bool
  | [], [] => true
  | (k, a) :: as, (l, b) :: bs => decide (k = l) && sameD a b && sameF as bs
  | _, _ => false
end
mutual
theorem sameD_eq : ∀ (a b : D), sameD a b = true → a = b
  | .non, b, h => by
    cases b with
    | non => rfl
    | _ => simp [sameD] at h
  | .bl a, b, h => by
    cases b with
    | bl b => rw [show a = b by simpa [sameD] using h]
    | _ => simp [sameD] at h
  | .int a, b, h => by
    cases b with
    | int b => rw [show a = b by simpa [sameD] using h]
    | _ => simp [sameD] at h
  | .str a, b, h => by
    cases b with
    | str b => rw [show a = b by simpa [sameD] using h]
    | _ => simp [sameD] at h
  | .scr a, b, h => by
    cases b with
    | scr b => rw [show a = b by simpa [sameD] using h]
    | _ => simp [sameD] at h
  | .tup a, b, h => by
    cases b with
    | tup b => rw [sameL_eq a b (by simpa [sameD] using h)]
    | _ => simp [sameD] at h
  | .lst a, b, h => by
    cases b with
    | lst b => rw [sameL_eq a b (by simpa [sameD] using h)]
    | _ => simp [sameD] at h
  | .kt a, b, h => by
    cases b with
    | kt b => rw [sameL_eq a b (by simpa [sameD] using h)]
    | _ => simp [sameD] at h
  | .dK a, b, h => by
    cases b with
    | dK b => rw [sameK_eq a b (by simpa [sameD] using h)]
    | _ => simp [sameD] at h
  | .dT a, b, h => by
    cases b with
    | dT b => rw [sameT_eq a b (by simpa [sameD] using h)]
    | _ => simp [sameD] at h
  | .ins c a, b, h => by
    cases b with
    | ins d b => 
      have h' : c = d ∧ sameF a b = true := by simpa [sameD] using h
      rw [h'.1, sameF_eq a b h'.2]
    | _ => simp [sameD] at h
  | .lk a, b, h => by
    cases b with
    | lk b => rw [sameD_eq a b (by simpa [sameD] using h)]
    | _ => simp [sameD] at h
theorem sameL_eq : ∀ (a b : List D), sameL a b = true → a = b
  | [], b, h => by
    cases b with
    | nil => rfl
    | cons _ _ => simp [sameL] at h
  | a :: as, b, h => by
    cases b with
    | nil => simp [sameL] at h
    | cons b bs =>
      have h' : sameD a b = true ∧ sameL as bs = true := by simpa [sameL] using h
      rw [sameD_eq a b h'.1, sameL_eq as bs h'.2]
theorem sameK_eq : ∀ (a b : List (Key × D)), sameK a b = true → a = b
  | [], b, h => by
    cases b with
    | nil => rfl
    | cons p _ => obtain ⟨_, _⟩ := p; simp [sameK] at h
  | (k, a) :: as, b, h => by
    cases b with
    | nil => simp [sameK] at h
    | cons p bs =>
      obtain ⟨l, b⟩ := p
      have h' : (k = l ∧ sameD a b = true) ∧ sameK as bs = true := by simpa [sameK] using h
      rw [h'.1.1, sameD_eq a b h'.1.2, sameK_eq as bs h'.2]
theorem sameT_eq : ∀ (a b : List (List Key × D)), sameT a b = true → a = b
  | [], b, h => by
    cases b with
    | nil => rfl
    | cons p _ => obtain ⟨_, _⟩ := p; simp [sameT] at h
  | (k, a) :: as, b, h => by
    cases b with
    | nil => simp [sameT] at h
    | cons p bs =>
      obtain ⟨l, b⟩ := p
      have h' : (k = l ∧ sameD a b = true) ∧ sameT as bs = true := by simpa [sameT] using h
      rw [h'.1.1, sameD_eq a b h'.1.2, sameT_eq as bs h'.2]
theorem sameF_eq : ∀ (a b : List (Str × D)), sameF a b = true → a = b
  | [], b, h => by
    cases b with
    | nil => rfl
    | cons p _ => obtain ⟨_, _⟩ := p; simp [sameF] at h
  | (k, a) :: as, b, h => by
    cases b with
    | nil => simp [sameF] at h
    | cons p bs =>
      obtain ⟨l, b⟩ := p
      have h' : (k = l ∧ sameD a b = true) ∧ sameF as bs = true := by simpa [sameF] using h
      rw [h'.1.1, sameD_eq a b h'.1.2, sameF_eq as bs h'.2]
end
mutual
theorem sameD_rfl : ∀ a : D, sameD a a = true
  | .non => by simp [sameD]
  | .bl a => by simp [sameD]
  | .int a => by simp [sameD]
  | .str a => by simp [sameD]
  | .tup a => by simp [sameD, sameL_rfl a]
  | .lst a => by simp [sameD, sameL_rfl a]
  | .kt a => by simp [sameD, sameL_rfl a]
  | .dK a => by simp [sameD, sameK_rfl a]
  | .dT a => by simp [sameD, sameT_rfl a]
  | .ins c a => by simp [sameD, sameF_rfl a]
  | .scr a => by simp [sameD]
  | .lk a => by simp [sameD, sameD_rfl a]
theorem sameL_rfl : ∀ a : List D, sameL a a = true
  | [] => by simp [sameL]
  | a :: as => by simp [sameL, sameD_rfl a, sameL_rfl as]
theorem sameK_rfl : ∀ a : List (Key × D), sameK a a = true
  | [] => by simp [sameK]
  | (k, a) :: as => by simp [sameK, sameD_rfl a, sameK_rfl as]
theorem sameT_rfl : ∀ a : List (List Key × D), sameT a a = true
  | [] => by simp [sameT]
  | (k, a) :: as => by simp [sameT, sameD_rfl a, sameT_rfl as]
theorem sameF_rfl : ∀ a : List (Str × D), sameF a a = true
  | [] => by simp [sameF]
  | (k, a) :: as => by simp [sameF, sameD_rfl a, sameF_rfl as]
end

/-- what is gone over: its items, and what must stay as it is meanwhile -/
structure Src where
  items : List D
  cels : List (Nat × D)
def stays (C : Store) : List (Nat × D) → Bool
  | [] => true
  | (n, d) :: r => (match C[n]? with
    | some e => sameD e d
    | none => false) && stays C r
abbrev SI := Env → Store → Option (Src × Store)
section
variable {G : Gm}
/-- what a walk must live with: what is not ours stays, ours keep their places -/
structure Stp (φ : List Addr) (M : Addr → Prop) (H : Hp) (φ2 : List Addr) (M2 : Addr → Prop) (H2 : Hp) : Prop where
  keeps : Keeps M M2 H H2
  at_ : ∀ (n : Nat) (a : Addr), φ[n]? = some a → φ2[n]? = some a
theorem Stp.refl {φ : List Addr} {M : Addr → Prop} {H : Hp} : Stp φ M H φ M H := ⟨⟨fun _ n _ => n, fun _ _ _ e => e⟩, fun _ _ e => e⟩
theorem Grow.stp {φ φ2 : List Addr} {M M2 : Addr → Prop} {H H2 : Hp} (g : Grow φ M H φ2 M2 H2) (sub : ∀ a ∈ φ, M a) : Stp φ M H φ2 M2 H2 := ⟨g.keeps sub, fun _ _ e => g.at_ e⟩
/-- at each later state the walk goes through the items -/
def ItR (G : Gm) (φ : List Addr) (M : Addr → Prop) (H : Hp) (J : It) (s : Src) : Prop :=
  ∀ φ2 M2 H2 C2, Stp φ M H φ2 M2 H2 → StR G φ2 M2 H2 C2 → stays C2 s.cels = true →
    J.stop s.items.length H2 ∧ ∀ (i : Nat) (d : D), s.items[i]? = some d → J.go i H2 ∧ ∀ x H3, J.yld i H2 x H3 → (H3 = H2 ∨ ∃ T w, H2 T = none ∧ H3 = upd H2 T w) ∧ Rp G M2 H3 x d
def SimI (G : Gm) (t : TI) (f : SI) : Prop :=
  ∀ φ M H C σ ρ s C', EnvR G φ M H σ ρ → StR G φ M H C → f ρ C = some (s, C') → ∀ R : It → Hp → Prop, (∀ J H', Ext φ H H' → StR G φ M H' C' → ItR G φ M H' J s → R J H') → t σ H R

/-- what is read of a slot's value now, and later while it stays -/
def keepOf (C : Store) : Sv → List (Nat × D)
  | .dat _ => []
  | .cel n => match C[n]? with
    | some d => [(n, d)]
    | none => []
theorem stays_keep {C : Store} {n : Nat} {d : D} (hn : C[n]? = some d) {C2 : Store} (h : stays C2 (keepOf C (.cel n)) = true) : C2[n]? = some d := by
  have e : keepOf C (.cel n) = [(n, d)] := by simp [keepOf, hn]
  rw [e] at h
  simp only [stays, Bool.and_true] at h
  cases q : C2[n]? with
  | none => rw [q] at h; cases h
  | some e' => rw [q] at h; rw [sameD_eq _ _ h]
theorem stays_append {C : Store} {a b : List (Nat × D)} : stays C (a ++ b) = (stays C a && stays C b) := by
  induction a with
  | nil => rfl
  | cons p a ih => obtain ⟨n, d⟩ := p; simp only [List.cons_append, stays, ih, Bool.and_assoc]
/-- a slot's value that is a list, at each later state -/
theorem later_see {φ : List Addr} {M : Addr → Prop} {H : Hp} {C : Store} {x : V} {s : Sv} {d : D} (hs : StR G φ M H C) (r : SvR G φ M H x s) (e : see C s = some d)
    {φ2 : List Addr} {M2 : Addr → Prop} {H2 : Hp} {C2 : Store} (g : Stp φ M H φ2 M2 H2) (s2 : StR G φ2 M2 H2 C2) (k : stays C2 (keepOf C s) = true) : SvR G φ2 M2 H2 x s ∧ see C2 s = some d := by
  refine ⟨r.keeps g.keeps fun n a _ e => g.at_ n a e, ?_⟩
  cases s with
  | dat d' => exact e
  | cel n =>
    have e' : (C[n]?).map unlk = some d := e
    cases hc : C[n]? with
    | none => rw [hc] at e'; cases e'
    | some c =>
      have := stays_keep hc k
      show (C2[n]?).map unlk = some d
      rw [this, ← hc]
      exact e'

/-! ### a list, a tuple, a text as it is -/
def iSeq (K : PySem.W.Frag) (tl : TE) : TI := fun σ H R => tl σ H fun x H1 => (∃ a, x = .ref a ∧ (∃ xs, SqL K H1 a xs) ∧ R (Itl K a) H1) ∨ (∃ a, x = .ref a ∧ (∃ xs, SqT K H1 a xs) ∧ R (Itt K a) H1) ∨ ∃ z, x = .str z ∧ R (Its z) H1
end
theorem pi_seq {X : Cx} {tg l : Expr} {tl : TE} (hl : PE X l tl) : PI X tg l (iSeq X.K tl) := by
  refine ⟨fun pins s σ H R I h => ?_⟩
  refine thn (hl.run pins s σ H _ I h) fun v s1 ⟨x, H1, I1, r1, q1⟩ => ?_
  rcases q1 with ⟨a, e, ⟨xs, hq⟩, q⟩ | ⟨a, e, ⟨xs, hq⟩, q⟩ | ⟨z, e, q⟩
  · subst e
    cases r1
    obtain ⟨its, rv, p, hz⟩ := I1.list hq
    exact wpAny_pyIter_list p.isList (pi_one (tk := s1.toks) I1 _ (turn_list a _) ⟨_, Heap.get?_push_size _ rfl, rfl, rfl⟩ q)
  · subst e
    cases r1
    obtain ⟨its, rv, p, hz⟩ := I1.tuple hq
    exact wpAny_pyIter_tuple (show s1.heap.IsTuple a its.toArray from p) (pi_one (tk := s1.toks) I1 _ (turn_tuple a _) ⟨_, Heap.get?_push_size _ rfl, rfl, rfl⟩ q)
  · subst e
    obtain ⟨t, rfl⟩ := r1
    cases ha : z.cps.all (· < 128)
    · exact wpAny_pyIter_wide ha (pi_one (tk := s1.toks) I1 _ (turn_str _ z t "str_iterator" (.inr rfl)) ⟨_, Heap.get?_push_size _ rfl, rfl, rfl⟩ q)
    · exact wpAny_pyIter_ascii ha (pi_one (tk := s1.toks) I1 _ (turn_str _ z t "str_ascii_iterator" (.inl rfl)) ⟨_, Heap.get?_push_size _ rfl, rfl, rfl⟩ q)
section
variable {G : Gm}
def chars (z : Str) : List D := z.cps.toList.map fun c => .str ⟨#[c]⟩
def itemsOf : D → Option (List D)
  | .lst xs => some xs
  | .tup xs => some xs
  | .kt xs => some xs
  | .scr ns => some (ns.map D.int)
  | .str z => some (chars z)
  | _ => none
def iSq (f : SE) : SI := fun ρ C => bnd (f ρ C) fun v C1 => bn1 (see C1 v) fun d => bn1 (itemsOf d) fun xs => some (⟨xs, keepOf C1 v⟩, C1)
theorem itr_list {φ : List Addr} {M : Addr → Prop} {H : Hp} {a : Addr} {src : Src} {ds : List D} (e : src.items = ds)
    (h : ∀ φ2 M2 H2 C2, Stp φ M H φ2 M2 H2 → StR G φ2 M2 H2 C2 → stays C2 src.cels = true → ∃ vs, SqL G.K H2 a vs ∧ RpL G M2 H2 vs ds) : ItR G φ M H (Itl G.K a) src := by
  intro φ2 M2 H2 C2 g s2 k
  obtain ⟨vs, q, r⟩ := h φ2 M2 H2 C2 g s2 k
  refine ⟨⟨vs, q, by rw [e, r.length]; exact Nat.le_refl _⟩, fun i d hd => ?_⟩
  rw [e] at hd
  obtain ⟨v, hv, rv⟩ := r.get hd
  refine ⟨⟨vs, v, q, hv⟩, fun x H3 y => ⟨.inl y.1, ?_⟩⟩
  have := y.2 vs q
  rw [hv] at this
  cases this
  rw [y.1]
  exact rv
theorem itr_tup {φ : List Addr} {M : Addr → Prop} {H : Hp} {a : Addr} {src : Src} {ds : List D} (e : src.items = ds)
    (h : ∀ φ2 M2 H2 C2, Stp φ M H φ2 M2 H2 → StR G φ2 M2 H2 C2 → stays C2 src.cels = true → ∃ vs, SqT G.K H2 a vs ∧ RpL G M2 H2 vs ds) : ItR G φ M H (Itt G.K a) src := by
  intro φ2 M2 H2 C2 g s2 k
  obtain ⟨vs, q, r⟩ := h φ2 M2 H2 C2 g s2 k
  refine ⟨⟨vs, q, by rw [e, r.length]; exact Nat.le_refl _⟩, fun i d hd => ?_⟩
  rw [e] at hd
  obtain ⟨v, hv, rv⟩ := r.get hd
  refine ⟨⟨vs, v, q, hv⟩, fun x H3 y => ⟨.inl y.1, ?_⟩⟩
  have := y.2 vs q
  rw [hv] at this
  cases this
  rw [y.1]
  exact rv
theorem rpl_ints {M : Addr → Prop} {H : Hp} : ∀ ks : List Int, RpL G M H (ks.map V.int) (ks.map D.int)
  | [] => .nil
  | k :: ks => .cons (.int k) (rpl_ints ks)
/-- a sequence that a slot's value is, at each later state: where it stands, and its items -/
theorem seq_at {φ : List Addr} {M : Addr → Prop} {H : Hp} {C : Store} {x : V} {s : Sv} {d : D} {xs : List D} (hs : StR G φ M H C) (r : SvR G φ M H x s) (e : see C s = some d) (hi : itemsOf d = some xs) :
    (∃ a, x = .ref a ∧ (∀ φ2 M2 H2 C2, Stp φ M H φ2 M2 H2 → StR G φ2 M2 H2 C2 → stays C2 (keepOf C s) = true → ∃ vs, SqL G.K H2 a vs ∧ RpL G M2 H2 vs xs)) ∨
    (∃ a, x = .ref a ∧ (∀ φ2 M2 H2 C2, Stp φ M H φ2 M2 H2 → StR G φ2 M2 H2 C2 → stays C2 (keepOf C s) = true → ∃ vs, SqT G.K H2 a vs ∧ RpL G M2 H2 vs xs)) ∨
    ∃ z, x = .str z ∧ xs = chars z := by
  have self : SvR G φ M H x s ∧ see C s = some d := ⟨r, e⟩
  cases d with
  | lst ds =>
    cases hi
    obtain ⟨a, vs, rfl, _, _, _⟩ := hs.seeL r e
    refine .inl ⟨a, rfl, fun φ2 M2 H2 C2 g s2 k => ?_⟩
    obtain ⟨r2, e2⟩ := later_see hs r e g s2 k
    obtain ⟨b, ws, eb, h1, _, h2⟩ := s2.seeL r2 e2
    cases eb
    exact ⟨ws, .inl h1, h2⟩
  | tup ds =>
    cases hi
    obtain ⟨a, vs, rfl, _, _, _⟩ := hs.seeT r e
    refine .inr (.inl ⟨a, rfl, fun φ2 M2 H2 C2 g s2 k => ?_⟩)
    obtain ⟨r2, e2⟩ := later_see hs r e g s2 k
    obtain ⟨b, ws, eb, h1, _, h2⟩ := s2.seeT r2 e2
    cases eb
    exact ⟨ws, h1.sq, h2⟩
  | kt ds =>
    cases hi
    obtain ⟨a, vs, rfl, _, _⟩ := hs.seeKT r e
    refine .inr (.inl ⟨a, rfl, fun φ2 M2 H2 C2 g s2 k => ?_⟩)
    obtain ⟨r2, e2⟩ := later_see hs r e g s2 k
    obtain ⟨b, ws, eb, h1, h2⟩ := s2.seeKT r2 e2
    cases eb
    exact ⟨ws, h1 H2, h2⟩
  | scr ns =>
    cases hi
    have r1 := hs.see_rp r e
    cases r1 with
    | @scr a ns h l =>
      refine .inl ⟨_, rfl, fun φ2 M2 H2 C2 g s2 k => ?_⟩
      obtain ⟨r2, e2⟩ := later_see hs r e g s2 k
      have r3 := s2.see_rp r2 e2
      cases r3 with
      | scr h2 l2 => exact ⟨_, h2.sq, rpl_ints ns⟩
  | str z =>
    cases hi
    exact .inr (.inr ⟨z, (hs.see_rp r e).strI, rfl⟩)
  | _ => cases hi
theorem itr_str {φ : List Addr} {M : Addr → Prop} {H : Hp} {z : Str} {src : Src} (e : src.items = chars z) : ItR G φ M H (Its z) src := by
  intro φ2 M2 H2 C2 g s2 k
  refine ⟨?_, fun i d hd => ?_⟩
  · show z.cps.size ≤ src.items.length
    rw [e]; unfold chars; rw [List.length_map, Array.length_toList]; exact Nat.le_refl _
  · rw [e] at hd
    unfold chars at hd
    rw [List.getElem?_map, Array.getElem?_toList] at hd
    cases hc : z.cps[i]? with
    | none => rw [hc] at hd; cases hd
    | some c =>
      rw [hc] at hd
      cases hd
      refine ⟨(Array.getElem?_eq_some_iff.mp hc).1, fun x H3 y => ⟨.inl y.1, ?_⟩⟩
      obtain ⟨c', h1, rfl⟩ := y.2
      rw [hc] at h1
      cases h1
      rw [y.1]
      exact .str _
theorem sim_iseq {te : TE} {f : SE} (he : SimE G te f) : SimI G (iSeq G.K te) (iSq f) := by
  intro φ M H C σ ρ src C' hE hs e R hR
  obtain ⟨v, C1, h1, e⟩ := bnd_i e
  obtain ⟨d, h2, e⟩ := bn1_i e
  obtain ⟨xs, h3, e⟩ := bn1_i e
  cases e
  refine he φ M H C σ ρ v C' hE hs h1 _ fun x H1 x1 s1 r1 => ?_
  rcases seq_at s1 r1 h2 h3 with ⟨a, rfl, q⟩ | ⟨a, rfl, q⟩ | ⟨z, rfl, q⟩
  · obtain ⟨vs, h4, _⟩ := q φ M H1 C' Stp.refl s1 (by
      cases v with
      | dat d => rfl
      | cel n =>
        have e' : (C'[n]?).map unlk = some d := h2
        cases hc : C'[n]? with
        | none => rw [hc] at e'; cases e'
        | some c => simp [keepOf, hc, stays, sameD_rfl])
    exact .inl ⟨a, rfl, ⟨vs, h4⟩, hR _ H1 x1 s1 (itr_list rfl q)⟩
  · obtain ⟨vs, h4, _⟩ := q φ M H1 C' Stp.refl s1 (by
      cases v with
      | dat d => rfl
      | cel n =>
        have e' : (C'[n]?).map unlk = some d := h2
        cases hc : C'[n]? with
        | none => rw [hc] at e'; cases e'
        | some c => simp [keepOf, hc, stays, sameD_rfl])
    exact .inr (.inl ⟨a, rfl, ⟨vs, h4⟩, hR _ H1 x1 s1 (itr_tup rfl q)⟩)
  · exact .inr (.inr ⟨z, rfl, hR _ H1 x1 s1 (itr_str q)⟩)
end
end DX

/-! DIt2: ranges, enumerate, zip; targets. -/
namespace DX
open PySem PySem.Spec L2
section
variable {G : Gm}
/-! ### range -/
def rngD (lo hi : Int) : List D := (List.range (hi - lo).toNat).map fun i => .int (lo + (i : Nat))
theorem itr_rng {φ : List Addr} {M : Addr → Prop} {H : Hp} {lo hi : Int} {src : Src} (e : src.items = rngD lo hi) : ItR G φ M H (Itr lo (hi - lo).toNat) src := by
  intro φ2 M2 H2 C2 g s2 k
  refine ⟨?_, fun i d hd => ?_⟩
  · show (hi - lo).toNat ≤ src.items.length
    rw [e]; unfold rngD; rw [List.length_map, List.length_range]; exact Nat.le_refl _
  · rw [e] at hd
    unfold rngD at hd
    rw [List.getElem?_map] at hd
    cases hc : (List.range (hi - lo).toNat)[i]? with
    | none => rw [hc] at hd; cases hd
    | some c =>
      rw [hc] at hd
      cases hd
      obtain ⟨h1, h2⟩ := List.getElem?_eq_some_iff.mp hc
      rw [List.getElem_range] at h2
      subst h2
      rw [List.length_range] at h1
      refine ⟨h1, fun x H3 y => ⟨.inl y.1, ?_⟩⟩
      rw [y.2, y.1]
      exact .int _
def smI (i : Int) : Prop := i.natAbs < 4611686018427387904
instance {i : Int} : Decidable (smI i) := inferInstanceAs (Decidable (_ < _))
theorem smI_b {i : Int} (h : smI i) : -(2 ^ 62) ≤ i ∧ i < 2 ^ 62 := by
  have e : (2 : Int) ^ 62 = 4611686018427387904 := rfl
  rw [e]
  unfold smI at h
  omega
theorem smI_nat {t : Nat} (h : t < 100000) : smI (t : Int) := by
  unfold smI
  omega
def iRg1 (a : SA) : SI := fun ρ C => bnd (a ρ C) fun vs C1 => match vs with
  | [.dat (.int j)] => gd (smI j) (some (⟨rngD 0 j, []⟩, C1))
  | _ => none
def iRg2 (a : SA) : SI := fun ρ C => bnd (a ρ C) fun vs C1 => match vs with
  | [.dat (.int i), .dat (.int j)] => gd (smI i ∧ smI j) (some (⟨rngD i j, []⟩, C1))
  | _ => none
theorem sim_irg1 {ta : TA} {a : SA} (ha : SimA G ta a) : SimI G (iRng1 ta) (iRg1 a) := by
  intro φ M H C σ ρ src C' hE hs e R hR
  obtain ⟨vs, C1, h1, e⟩ := bnd_i e
  refine ha φ M H C σ ρ vs C1 hE hs h1 _ fun xs H1 x1 s1 r1 => ?_
  split at e
  · rename_i j
    obtain ⟨h0, e⟩ := gd_i e
    obtain ⟨h3, h4⟩ := smI_b h0
    cases e
    cases r1 with
    | cons r t =>
      cases t
      refine ⟨j, by rw [Rp.intI r], h3, h4, ?_⟩
      have := hR _ H1 x1 s1 (itr_rng (lo := 0) (hi := j) rfl)
      simpa using this
  · cases e
theorem sim_irg2 {ta : TA} {a : SA} (ha : SimA G ta a) : SimI G (iRng2 ta) (iRg2 a) := by
  intro φ M H C σ ρ src C' hE hs e R hR
  obtain ⟨vs, C1, h1, e⟩ := bnd_i e
  refine ha φ M H C σ ρ vs C1 hE hs h1 _ fun xs H1 x1 s1 r1 => ?_
  split at e
  · rename_i i j
    obtain ⟨⟨h0, h00⟩, e⟩ := gd_i e
    obtain ⟨h3, h4⟩ := smI_b h0
    obtain ⟨h5, h6⟩ := smI_b h00
    cases e
    cases r1 with
    | cons r t =>
      cases t with
      | cons r2 t =>
        cases t
        exact ⟨i, j, by rw [Rp.intI r, Rp.intI r2], ⟨h3, h4, h5, h6⟩, hR _ H1 x1 s1 (itr_rng rfl)⟩
  · cases e

/-! ### enumerate, zip: pairs -/
def enumD (xs : List D) : List D := (List.range xs.length).zipWith (fun (i : Nat) x => .tup [.int (i : Nat), x]) xs
def zipD (xs ys : List D) : List D := xs.zipWith (fun x y => .tup [x, y]) ys
theorem stays_self {φ : List Addr} {M : Addr → Prop} {H : Hp} {C : Store} {v : Sv} {d : D} (h : see C v = some d) : stays C (keepOf C v) = true := by
  cases v with
  | dat d => rfl
  | cel n =>
    have e' : (C[n]?).map unlk = some d := h
    cases hc : C[n]? with
    | none => rw [hc] at e'; cases e'
    | some c => simp [keepOf, hc, stays, sameD_rfl]
theorem newPair {φ : List Addr} {M : Addr → Prop} {H : Hp} {C : Store} {T : Addr} {x y : V} {d e : D} (s : StR G φ M H C) (hT : H T = none) (r : Rp G M H x d) (q : Rp G M H y e) : Rp G M (upd H T (.tup [x, y])) (.ref T) (.tup [d, e]) := by
  have k := (Ext.laid (φ := φ) (o := .tup [x, y]) hT).keeps s.sub
  exact .tup ⟨s.nm hT, upd_same⟩ (by show 2 ≤ sizeLine; rw [sizeLine_eq]; omega) (.cons (r.keeps k) (.cons (q.keeps k) .nil))
def iEn (a : SA) : SI := fun ρ C => bnd (a ρ C) fun vs C1 => match vs with
  | [v] => bn1 (see C1 v) fun d => match d with
    | .lst xs => some (⟨enumD xs, keepOf C1 v⟩, C1)
    | .scr xs => some (⟨enumD (xs.map D.int), keepOf C1 v⟩, C1)
    | _ => none
  | _ => none
theorem itr_enum {φ : List Addr} {M : Addr → Prop} {H : Hp} {a : Addr} {src : Src} {ds : List D} (e : src.items = enumD ds)
    (h : ∀ φ2 M2 H2 C2, Stp φ M H φ2 M2 H2 → StR G φ2 M2 H2 C2 → stays C2 src.cels = true → ∃ vs, SqL G.K H2 a vs ∧ RpL G M2 H2 vs ds) : ItR G φ M H (Ite G.K a) src := by
  intro φ2 M2 H2 C2 g s2 k
  obtain ⟨vs, q, r⟩ := h φ2 M2 H2 C2 g s2 k
  refine ⟨⟨vs, q, by rw [e, r.length]; simp [enumD]⟩, fun i d hd => ?_⟩
  rw [e] at hd
  unfold enumD at hd
  rw [List.getElem?_zipWith] at hd
  cases h1 : (List.range ds.length)[i]? with
  | none => rw [h1] at hd; cases hd
  | some c =>
    cases h2 : ds[i]? with
    | none => rw [h1, h2] at hd; cases hd
    | some w =>
      rw [h1, h2] at hd
      cases hd
      have hc : c = i := by
        obtain ⟨_, z⟩ := List.getElem?_eq_some_iff.mp h1
        rw [List.getElem_range] at z
        exact z.symm
      subst hc
      obtain ⟨v, hv, rv⟩ := r.get h2
      refine ⟨⟨vs, v, q, hv⟩, fun x H3 y => ?_⟩
      obtain ⟨T, u, rfl, hT, rfl, hu⟩ := y
      have := hu vs q
      rw [hv] at this
      cases this
      exact ⟨.inr ⟨T, _, hT, rfl⟩, newPair s2 hT (.int _) rv⟩
theorem seqL_of {φ : List Addr} {M : Addr → Prop} {H : Hp} {C : Store} {x : V} {s : Sv} {d : D} {xs : List D} (hs : StR G φ M H C) (r : SvR G φ M H x s) (e : see C s = some d) (hi : d = .lst xs ∨ ∃ ns : List Int, d = .scr ns ∧ xs = ns.map D.int) :
    ∃ a, x = .ref a ∧ (∀ φ2 M2 H2 C2, Stp φ M H φ2 M2 H2 → StR G φ2 M2 H2 C2 → stays C2 (keepOf C s) = true → ∃ vs, SqL G.K H2 a vs ∧ RpL G M2 H2 vs xs) := by
  have hi' : itemsOf d = some xs := by
    rcases hi with rfl | ⟨ns, rfl, rfl⟩ <;> rfl
  rcases seq_at hs r e hi' with h | ⟨a, rfl, q⟩ | ⟨z, rfl, _⟩
  · exact h
  · have r0 := hs.see_rp r e
    rcases hi with rfl | ⟨ns, rfl, rfl⟩
    · obtain ⟨b, vs, eb, _⟩ := hs.seeL r e
      refine ⟨a, rfl, fun φ2 M2 H2 C2 g s2 k => ?_⟩
      obtain ⟨r2, e2⟩ := later_see hs r e g s2 k
      obtain ⟨b, ws, eb, h1, _, h2⟩ := s2.seeL r2 e2
      cases eb
      exact ⟨ws, .inl h1, h2⟩
    · cases r0 with
      | scr h l =>
        refine ⟨a, rfl, fun φ2 M2 H2 C2 g s2 k => ?_⟩
        obtain ⟨r2, e2⟩ := later_see hs r e g s2 k
        have r3 := s2.see_rp r2 e2
        cases r3 with
        | scr h2 l2 => exact ⟨_, h2.sq, rpl_ints ns⟩
  · have r0 := hs.see_rp r e
    rcases hi with rfl | ⟨ns, rfl, rfl⟩ <;> cases r0
theorem sim_ien {ta : TA} {a : SA} (ha : SimA G ta a) : SimI G (iEnum G.K ta) (iEn a) := by
  intro φ M H C σ ρ src C' hE hs e R hR
  obtain ⟨vs, C1, h1, e⟩ := bnd_i e
  refine ha φ M H C σ ρ vs C1 hE hs h1 _ fun xs H1 x1 s1 r1 => ?_
  split at e
  · rename_i v
    obtain ⟨d, h2, e⟩ := bn1_i e
    cases r1 with
    | cons r t =>
      cases t
      cases d with
      | lst ds =>
        cases e
        obtain ⟨p, rfl, q⟩ := seqL_of s1 r h2 (.inl rfl)
        obtain ⟨ws, h4, _⟩ := q φ M H1 C' Stp.refl s1 (stays_self (φ := φ) (M := M) (H := H1) h2)
        exact ⟨p, ws, rfl, h4, hR _ H1 x1 s1 (itr_enum rfl q)⟩
      | scr ns =>
        cases e
        obtain ⟨p, rfl, q⟩ := seqL_of s1 r h2 (.inr ⟨ns, rfl, rfl⟩)
        obtain ⟨ws, h4, _⟩ := q φ M H1 C' Stp.refl s1 (stays_self (φ := φ) (M := M) (H := H1) h2)
        exact ⟨p, ws, rfl, h4, hR _ H1 x1 s1 (itr_enum rfl q)⟩
      | _ => cases e
  · cases e
/-- zip: both lists, or both tuples -/
def iZp (a : SA) : SI := fun ρ C => bnd (a ρ C) fun vs C1 => match vs with
  | [v, w] => bn1 (see C1 v) fun d => bn1 (see C1 w) fun e => match d, e with
    | .lst xs, .lst ys => some (⟨zipD xs ys, keepOf C1 v ++ keepOf C1 w⟩, C1)
    | .tup xs, .tup ys => some (⟨zipD xs ys, keepOf C1 v ++ keepOf C1 w⟩, C1)
    | _, _ => none
  | _ => none
theorem zip_get {xs ys : List D} {i : Nat} {d : D} (h : (zipD xs ys)[i]? = some d) : ∃ x y, xs[i]? = some x ∧ ys[i]? = some y ∧ d = .tup [x, y] := by
  unfold zipD at h
  rw [List.getElem?_zipWith] at h
  cases h1 : xs[i]? with
  | none => rw [h1] at h; cases h
  | some c =>
    cases h2 : ys[i]? with
    | none => rw [h1, h2] at h; cases h
    | some w => rw [h1, h2] at h; cases h; exact ⟨c, w, rfl, rfl, rfl⟩
theorem itr_zip {φ : List Addr} {M : Addr → Prop} {H : Hp} {a b : Addr} {src : Src} {ds es : List D} (e : src.items = zipD ds es)
    (h : ∀ φ2 M2 H2 C2, Stp φ M H φ2 M2 H2 → StR G φ2 M2 H2 C2 → stays C2 src.cels = true → ∃ vs ws, SqL G.K H2 a vs ∧ RpL G M2 H2 vs ds ∧ SqL G.K H2 b ws ∧ RpL G M2 H2 ws es) : ItR G φ M H (Itz G.K a b) src := by
  intro φ2 M2 H2 C2 g s2 k
  obtain ⟨vs, ws, q1, r1, q2, r2⟩ := h φ2 M2 H2 C2 g s2 k
  have l1 := r1.length
  have l2 := r2.length
  refine ⟨⟨vs, ws, q1, q2, by rw [e]; simp only [zipD, List.length_zipWith]; omega⟩, fun i d hd => ?_⟩
  rw [e] at hd
  obtain ⟨x, y, hx, hy, rfl⟩ := zip_get hd
  obtain ⟨v, hv, rv⟩ := r1.get hx
  obtain ⟨w, hw, rw'⟩ := r2.get hy
  refine ⟨⟨vs, ws, v, w, q1, q2, hv, hw⟩, fun z H3 y => ?_⟩
  obtain ⟨T, u, u2, rfl, hT, rfl, hu, hu2⟩ := y
  have e1 := hu vs q1
  have e2 := hu2 ws q2
  rw [hv] at e1
  rw [hw] at e2
  cases e1
  cases e2
  exact ⟨.inr ⟨T, _, hT, rfl⟩, newPair s2 hT rv rw'⟩
theorem itr_zipT {φ : List Addr} {M : Addr → Prop} {H : Hp} {a b : Addr} {src : Src} {ds es : List D} (e : src.items = zipD ds es)
    (h : ∀ φ2 M2 H2 C2, Stp φ M H φ2 M2 H2 → StR G φ2 M2 H2 C2 → stays C2 src.cels = true → ∃ vs ws, SqT G.K H2 a vs ∧ RpL G M2 H2 vs ds ∧ SqT G.K H2 b ws ∧ RpL G M2 H2 ws es) : ItR G φ M H (RZ.ItzT G.K a b) src := by
  intro φ2 M2 H2 C2 g s2 k
  obtain ⟨vs, ws, q1, r1, q2, r2⟩ := h φ2 M2 H2 C2 g s2 k
  have l1 := r1.length
  have l2 := r2.length
  refine ⟨⟨vs, ws, q1, q2, by rw [e]; simp only [zipD, List.length_zipWith]; omega⟩, fun i d hd => ?_⟩
  rw [e] at hd
  obtain ⟨x, y, hx, hy, rfl⟩ := zip_get hd
  obtain ⟨v, hv, rv⟩ := r1.get hx
  obtain ⟨w, hw, rw'⟩ := r2.get hy
  refine ⟨⟨vs, ws, v, w, q1, q2, hv, hw⟩, fun z H3 y => ?_⟩
  obtain ⟨T, u, u2, rfl, hT, rfl, hu, hu2⟩ := y
  have e1 := hu vs q1
  have e2 := hu2 ws q2
  rw [hv] at e1
  rw [hw] at e2
  cases e1
  cases e2
  exact ⟨.inr ⟨T, _, hT, rfl⟩, newPair s2 hT rv rw'⟩
theorem sim_izp {ta : TA} {a : SA} (ha : SimA G ta a) : SimI G (RZ.iZipA G.K ta) (iZp a) := by
  intro φ M H C σ ρ src C' hE hs e R hR
  obtain ⟨vs, C1, h1, e⟩ := bnd_i e
  refine ha φ M H C σ ρ vs C1 hE hs h1 _ fun xs H1 x1 s1 r1 => ?_
  split at e
  · rename_i v w
    obtain ⟨d, h2, e⟩ := bn1_i e
    obtain ⟨d', h3, e⟩ := bn1_i e
    cases r1 with
    | cons r t =>
      cases t with
      | cons r' t =>
        cases t
        cases d with
        | lst ds =>
          cases d' with
          | lst es =>
            cases e
            obtain ⟨p, rfl, q⟩ := seqL_of s1 r h2 (.inl rfl)
            obtain ⟨p', rfl, q'⟩ := seqL_of s1 r' h3 (.inl rfl)
            have both : ∀ φ2 M2 H2 C2, Stp φ M H1 φ2 M2 H2 → StR G φ2 M2 H2 C2 → stays C2 (keepOf C' v ++ keepOf C' w) = true → ∃ vs ws, SqL G.K H2 p vs ∧ RpL G M2 H2 vs ds ∧ SqL G.K H2 p' ws ∧ RpL G M2 H2 ws es := fun φ2 M2 H2 C2 g s2 k => by
              rw [stays_append, Bool.and_eq_true] at k
              obtain ⟨vs, a1, a2⟩ := q φ2 M2 H2 C2 g s2 k.1
              obtain ⟨ws, b1, b2⟩ := q' φ2 M2 H2 C2 g s2 k.2
              exact ⟨vs, ws, a1, a2, b1, b2⟩
            obtain ⟨vs, ws, a1, _, b1, _⟩ := both φ M H1 C' Stp.refl s1 (by rw [stays_append, stays_self (φ := φ) (M := M) (H := H1) h2, stays_self (φ := φ) (M := M) (H := H1) h3]; rfl)
            exact ⟨p, p', vs, ws, rfl, .inl ⟨a1, b1, hR _ H1 x1 s1 (itr_zip rfl both)⟩⟩
          | _ => cases e
        | tup ds =>
          cases d' with
          | tup es =>
            cases e
            obtain ⟨p, vs, rfl, t1, l1, q1⟩ := s1.seeT r h2
            obtain ⟨p', ws, rfl, t2, l2, q2⟩ := s1.seeT r' h3
            refine ⟨p, p', vs, ws, rfl, .inr ⟨t1.sq, t2.sq, hR _ H1 x1 s1 (itr_zipT rfl fun φ2 M2 H2 C2 g s2 k => ?_)⟩⟩
            rw [stays_append, Bool.and_eq_true] at k
            obtain ⟨r2, e2⟩ := later_see s1 r h2 g s2 k.1
            obtain ⟨r3, e3⟩ := later_see s1 r' h3 g s2 k.2
            obtain ⟨_, vs2, eb, a1, _, a2⟩ := s2.seeT r2 e2
            obtain ⟨_, ws2, eb2, b1, _, b2⟩ := s2.seeT r3 e3
            cases eb
            cases eb2
            exact ⟨vs2, ws2, a1.sq, a2, b1.sq, b2⟩
          | _ => cases e
        | _ => cases e
  · cases e

/-! ### targets -/
/-- vs: the slots that it may store -/
def SimG (G : Gm) (g : TG) (b : D → Env → Option Env) (vs : List Nat) : Prop :=
  ∀ φ M H C σ ρ x d ρ', EnvR G φ M H σ ρ → StR G φ M H C → Rp G M H x d → b d ρ = some ρ' → ∀ Q : L2.St → Hp → Prop,
    (∀ σ', EnvR G φ M H σ' ρ' → σ'.length = σ.length → (∀ i, i ∉ vs → σ'[i]? = σ[i]?) → Q σ' H) → g x σ H Q
def SimGs (G : Gm) (g : TGs) (b : List D → Env → Option Env) (vs : List Nat) : Prop :=
  ∀ φ M H C σ ρ xs ds ρ', EnvR G φ M H σ ρ → StR G φ M H C → RpL G M H xs ds → b ds ρ = some ρ' → ∀ Q : L2.St → Hp → Prop,
    (∀ σ', EnvR G φ M H σ' ρ' → σ'.length = σ.length → (∀ i, i ∉ vs → σ'[i]? = σ[i]?) → Q σ' H) → g xs σ H Q
theorem EnvR.set {φ : List Addr} {M : Addr → Prop} {H : Hp} {σ : L2.St} {ρ : Env} (e : EnvR G φ M H σ ρ) (i : Nat) {v : V} {s : Sv} (r : SvR G φ M H v s) : EnvR G φ M H (σ.set i (some v)) (ρ.set i (some s)) := by
  refine ⟨by simp [e.len], fun j s' h => ?_⟩
  by_cases hj : i = j
  · subst hj
    by_cases hl : i < ρ.length
    · rw [List.getElem?_set_self hl] at h
      cases h
      exact ⟨v, by rw [List.getElem?_set_self (by rw [← e.len]; exact hl)], r⟩
    · rw [List.getElem?_eq_none (by simpa using hl)] at h; cases h
  · rw [List.getElem?_set_ne hj] at h ⊢
    exact e.at_ j s' h
def bName (i : Nat) : D → Env → Option Env := fun d ρ => some (ρ.set i (some (.dat d)))
theorem sim_gname {i : Nat} : SimG G (gName i) (bName i) [i] := by
  intro φ M H C σ ρ x d ρ' hE hs r e Q hQ
  cases e
  refine hQ _ (hE.set i r) (by simp) fun j hj => ?_
  rw [List.getElem?_set_ne (fun z => hj (by simp [z]))]
def bNil : List D → Env → Option Env := fun ds ρ => match ds with
  | [] => some ρ
  | _ => none
def bCons (b : D → Env → Option Env) (bs : List D → Env → Option Env) : List D → Env → Option Env := fun ds ρ => match ds with
  | d :: ds => bn1 (b d ρ) fun ρ' => bs ds ρ'
  | [] => none
theorem sim_gnil : SimGs G gNil bNil [] := by
  intro φ M H C σ ρ xs ds ρ' hE hs r e Q hQ
  cases r with
  | nil => cases e; exact ⟨rfl, hQ σ hE rfl fun _ _ => rfl⟩
  | cons _ _ => cases e
theorem sim_gcons {g : TG} {gs : TGs} {b : D → Env → Option Env} {bs : List D → Env → Option Env} {vs ws : List Nat} (h1 : SimG G g b vs) (h2 : SimGs G gs bs ws) : SimGs G (gCons g gs) (bCons b bs) (vs ++ ws) := by
  intro φ M H C σ ρ xs ds ρ' hE hs r e Q hQ
  cases r with
  | nil => cases e
  | cons r t =>
    obtain ⟨ρ1, e1, e⟩ := bn1_i e
    refine ⟨_, _, rfl, h1 φ M H C σ ρ _ _ ρ1 hE hs r e1 _ fun σ1 hE1 l1 k1 => ?_⟩
    refine h2 φ M H C σ1 ρ1 _ _ ρ' hE1 hs t e _ fun σ2 hE2 l2 k2 => ?_
    refine hQ σ2 hE2 (l2.trans l1) fun i hi => ?_
    have hi' : i ∉ vs ∧ i ∉ ws := by simpa using hi
    rw [k2 i hi'.2, k1 i hi'.1]
/-- (a, b, ..) = a tuple or a list of that length -/
def gSeq (K : PySem.W.Frag) (n : Nat) (t : TGs) : TG := fun v σ H Q => ∃ a xs, v = .ref a ∧ (SqT K H a xs ∨ SqL K H a xs) ∧ xs.length = n ∧ t xs σ H Q
end
theorem pg_seq {X : Cx} {es : List Expr} {k : Nat} {t : TGs} {n : Nat} {pos : Pos} (hc : X.calm = true) (h : PGs X es t)
    (hn : (assignEach es X.env).length = n := by rfl) (hst : (assignEach es X.env).findIdx? (·.1) = none := by rfl) : PG X (.Tuple es k pos) (gSeq X.K n t) := by
  refine ⟨fun pins s σ H v u Q I r hw => ?_⟩
  obtain ⟨a, xs, e1, hq | hq, hl, hw⟩ := hw
  · exact (pg_tup hc h hn hst).run pins s σ H v u Q I r ⟨a, xs, e1, hq, hl, hw⟩
  · exact (pg_unl hc h hn hst).run pins s σ H v u Q I r ⟨a, xs, e1, hq, hl, hw⟩
section
variable {G : Gm}
def bSeq (n : Nat) (bs : List D → Env → Option Env) : D → Env → Option Env := fun d ρ => match d with
  | .tup ds => gd (ds.length = n) (bs ds ρ)
  | .lst ds => gd (ds.length = n) (bs ds ρ)
  | _ => none
theorem sim_gseq {n : Nat} {gs : TGs} {bs : List D → Env → Option Env} {vs : List Nat} (h : SimGs G gs bs vs) : SimG G (gSeq G.K n gs) (bSeq n bs) vs := by
  intro φ M H C σ ρ x d ρ' hE hs r e Q hQ
  cases r with
  | tup h1 l t =>
    obtain ⟨hn, e⟩ := gd_i e
    exact ⟨_, _, rfl, .inl h1.sq, by rw [t.length]; exact hn, h φ M H C σ ρ _ _ ρ' hE hs t e Q hQ⟩
  | lst _ h1 l t =>
    obtain ⟨hn, e⟩ := gd_i e
    exact ⟨_, _, rfl, .inr (.inl h1), by rw [t.length]; exact hn, h φ M H C σ ρ _ _ ρ' hE hs t e Q hQ⟩
  | _ => cases e
end
end DX

/-! DLc: comprehensions. -/
namespace DX
open PySem PySem.Spec L2
/-- the slots of a comprehension's own names, forgotten -/
def wipeE (ρ : Env) : List Nat → Env
  | [] => ρ
  | v :: vs => (wipeE ρ vs).set v none
section
variable {G : Gm}
theorem EnvR.wipe {φ : List Addr} {M : Addr → Prop} {H : Hp} {σ : L2.St} {ρ : Env} (e : EnvR G φ M H σ ρ) : ∀ vs : List Nat, EnvR G φ M H (L2.wipe σ vs) (wipeE ρ vs)
  | [] => e
  | v :: vs => by
    have ih := EnvR.wipe e vs
    refine ⟨by simp [wipeE, L2.wipe, ih.len], fun j s h => ?_⟩
    unfold wipeE at h
    unfold L2.wipe
    by_cases hj : v = j
    · subst hj
      by_cases hl : v < (wipeE ρ vs).length
      · rw [List.getElem?_set_self hl] at h; cases h
      · rw [List.getElem?_eq_none (by simpa using hl)] at h; cases h
    · rw [List.getElem?_set_ne hj] at h ⊢
      exact ih.at_ j s h
theorem wipe_get {σ : L2.St} {i : Nat} : ∀ {vs : List Nat}, i < σ.length → (L2.wipe σ vs)[i]? = if i ∈ vs then some none else σ[i]?
  | [], h => by simp [L2.wipe]
  | v :: vs, h => by
    unfold L2.wipe
    by_cases hv : v = i
    · subst hv
      rw [List.getElem?_set_self (by rw [wipe_length]; exact h)]
      simp
    · rw [List.getElem?_set_ne hv, wipe_get h]
      by_cases hm : i ∈ vs
      · simp [hm]
      · simp [hm, Ne.symm hv]
theorem wipe_eq {σ σ' : L2.St} {vs : List Nat} (l : σ'.length = (L2.wipe σ vs).length) (k : ∀ i, i ∉ vs → σ'[i]? = (L2.wipe σ vs)[i]?) : L2.wipe σ' vs = L2.wipe σ vs := by
  apply List.ext_getElem?
  intro i
  rw [wipe_length] at l
  by_cases hi : i < σ.length
  · rw [wipe_get (by omega), wipe_get hi]
    by_cases hm : i ∈ vs
    · simp [hm]
    · rw [if_neg hm, if_neg hm, k i hm, wipe_get hi, if_neg hm]
  · rw [List.getElem?_eq_none (by rw [wipe_length]; omega), List.getElem?_eq_none (by rw [wipe_length]; omega)]

def datOf : Sv → Option D
  | .dat d => some d
  | .cel _ => none
def compL (cels : List (Nat × D)) (b : D → Env → Option Env) (tt : ST) (te : SE) (ρ : Env) : List D → Store → Option (List D × Store)
  | [], C => gd (stays C cels = true) (some ([], C))
  | d :: ds, C => gd (stays C cels = true) (bn1 (b d ρ) fun ρ1 => bnd (tt ρ1 C) fun k C1 =>
      if k = true then bnd (te ρ1 C1) fun v C2 => bn1 (datOf v) fun z => bnd (compL cels b tt te ρ ds C2) fun zs C3 => some (z :: zs, C3)
      else compL cels b tt te ρ ds C1)
def nLc (si : SI) (b : D → Env → Option Env) (tt : ST) (te : SE) (vs : List Nat) : SN := fun ρ C => bnd (si ρ C) fun src C1 => gd (src.items.length ≤ sizeLine) (bnd (compL src.cels b tt te (wipeE ρ vs) src.items C1) fun zs C2 => some (.lst zs, C2))
def tYes' : ST := fun _ C => some (true, C)
theorem sim_tyes : SimT G tYes tYes' := by
  intro φ M H C σ ρ b C' hE hs e Q hQ
  cases e
  exact hQ H Ext.refl hs
theorem Rp.step {φ : List Addr} {M : Addr → Prop} {H H3 : Hp} {C : Store} (s : StR G φ M H C) (h : H3 = H ∨ ∃ T w, H T = none ∧ H3 = upd H T w) : Ext φ H H3 ∧ StR G φ M H3 C := by
  rcases h with rfl | ⟨T, w, hT, rfl⟩
  · exact ⟨Ext.refl, s⟩
  · exact ⟨Ext.laid hT, s.laid hT⟩
theorem lc_by {J : It} {n : Nat} {g : TG} {tt : TT} {te : TE} {vs : List Nat} {σ : L2.St} {H1 : Hp} {Dn : Addr} {Qd : Hp → Prop} (Pv : Nat → Hp → Prop) (h0 : Pv 0 (upd H1 Dn (.lst [])))
    (hs : ∀ i H, i < n → Pv i H → J.go i H ∧ ∀ x H', J.yld i H x H' → g x (L2.wipe σ vs) H' fun σ2 H2 => L2.wipe σ2 vs = L2.wipe σ vs ∧ tt σ2 H2 fun b H3 =>
      if b = true then te σ2 H3 fun y H4 => ∃ acc, H4 Dn = some (.lst acc) ∧ acc.length < sizeLine ∧ Pv (i + 1) (upd H4 Dn (.lst (acc ++ [y]))) else Pv (i + 1) H3) (hd : ∀ H, Pv n H → J.stop n H ∧ Qd H) :
    ∃ W : Nat → Nat → Hp → Prop, (∃ m, W 0 m (upd H1 Dn (.lst []))) ∧ ∀ i m H, W i m H →
      (J.stop i H ∧ Qd H) ∨ (J.go i H ∧ ∃ Nx : Hp → Prop, (∀ H', Nx H' → ∃ m', m' < m ∧ W (i + 1) m' H') ∧ ∀ x H', J.yld i H x H' → g x (L2.wipe σ vs) H' fun σ2 H2 => L2.wipe σ2 vs = L2.wipe σ vs ∧ tt σ2 H2 fun b H3 =>
        if b = true then te σ2 H3 fun y H4 => ∃ acc, H4 Dn = some (.lst acc) ∧ acc.length < sizeLine ∧ Nx (upd H4 Dn (.lst (acc ++ [y]))) else Nx H3) := by
  refine ⟨fun i m H => m = n - i ∧ i ≤ n ∧ Pv i H, ⟨n, by simp, Nat.zero_le _, h0⟩, fun i m H ⟨hm, hi, p⟩ => ?_⟩
  subst hm
  by_cases hlt : i < n
  · obtain ⟨a, b⟩ := hs i H hlt p
    exact .inr ⟨a, Pv (i + 1), fun H' p' => ⟨n - (i + 1), by omega, rfl, hlt, p'⟩, b⟩
  · have e : i = n := by omega
    subst e
    exact .inl (hd H p)
theorem lc_at {φ : List Addr} {M : Addr → Prop} {H : Hp} {C : Store} {σ : L2.St} {ρ : Env} {wi : TI} {g : TG} {tt : TT} {te : TE} {vs ws : List Nat} {b : D → Env → Option Env} {ft : ST} {fe : SE} {src : Src} {C1 C' : Store} {zs : List D} {Q : VK} (hE : EnvR G φ M H σ ρ) (hs : StR G φ M H C)
    (hI : ∀ R : It → Hp → Prop, (∀ J H', Ext φ H H' → StR G φ M H' C1 → ItR G φ M H' J src → R J H') → wi σ H R) (hG : SimG G g b ws) (hw : ∀ i ∈ ws, i ∈ vs) (hT : SimT G tt ft) (hE' : SimE G te fe)
    (hlen : src.items.length ≤ sizeLine) (h2 : compL src.cels b ft fe (wipeE ρ vs) src.items C1 = some (zs, C'))
    (hQ : ∀ p H', H p = none → Ext φ H H' → StR G φ (fun a => M a ∨ a = p) H' C' → CelR G (fun a => M a ∨ a = p) H' p (.lst zs) → Q (.ref p) H') : tLc wi g tt te vs σ H Q := by
  refine hI _ fun J H1 x1 s1 itr => fun Dn hD => ?_
  have hDφ : Dn ∉ φ := fun z => s1.live _ (s1.sub _ z) hD
  -- the word
  refine lc_by (n := src.items.length) (fun i H' => ∃ Ci acc accV zs', StR G φ (fun a => M a ∨ a = Dn) H' Ci ∧ Grow φ M H1 φ (fun a => M a ∨ a = Dn) H' ∧ H' Dn = some (.lst accV) ∧ RpL G (fun a => M a ∨ a = Dn) H' accV acc ∧ accV.length ≤ i ∧
      compL src.cels b ft fe (wipeE ρ vs) (src.items.drop i) Ci = some (zs', C') ∧ zs = acc ++ zs') ⟨C1, [], [], zs, s1.laidM hD, ?_, upd_same, .nil, Nat.le_refl _, by simpa using h2, rfl⟩ (fun i H' hlt ⟨Ci, acc, accV, zs', s', g', hDv, rv, hacc, hc, hz⟩ => ?_) (fun H' ⟨Ci, acc, accV, zs', s', g', hDv, rv, hacc, hc, hz⟩ => ?_)
  · refine ⟨⟨[], by simp, fun _ h => by cases h⟩, fun a u e _ => by rw [upd_ne (ne_of_none e hD)]; exact e, fun a h => ?_, fun _ h => .inl h, fun a h => ?_⟩
    · by_cases z : a = Dn
      · subst z; rw [upd_same]; simp
      · rw [upd_ne z]; exact h
    · rcases h with h | h
      · exact .inl h
      · rw [h]; exact .inr hD
  · have hget : src.items[i]? = some src.items[i] := List.getElem?_eq_getElem hlt
    have hdrop : src.items.drop i = src.items[i] :: src.items.drop (i + 1) := List.drop_eq_getElem_cons hlt
    rw [hdrop] at hc
    obtain ⟨hst, hc⟩ := gd_i hc
    obtain ⟨jstop, jgo⟩ := itr φ _ H' Ci (g'.stp s1.sub) s' hst
    obtain ⟨ρ1, hb, hc⟩ := bn1_i hc
    obtain ⟨k, Cb, ht, hc⟩ := bnd_i hc
    obtain ⟨go, yl⟩ := jgo i _ hget
    refine ⟨go, fun x H3 y => ?_⟩
    obtain ⟨hst3, rx⟩ := yl x H3 y
    obtain ⟨x3, s3⟩ := Rp.step s' hst3
    have g3 := g'.trans x3.grow
    have hD3 : H3 Dn = some (.lst accV) := x3.keep _ _ hDv hDφ
    have rv3 : RpL G (fun a => M a ∨ a = Dn) H3 accV acc := rv.keeps (x3.keeps s'.sub)
    have hE3 : EnvR G φ (fun a => M a ∨ a = Dn) H3 (L2.wipe σ vs) (wipeE ρ vs) := ((hE.ext x1 hs.sub).grow g3 s1.sub).wipe vs
    refine hG φ _ H3 Ci _ _ x _ ρ1 hE3 s3 rx hb _ fun σ2 hE2 l2 k2 => ⟨wipe_eq l2 fun j hj => k2 j fun z => hj (hw j z), ?_⟩
    refine hT φ _ H3 Ci σ2 ρ1 k Cb hE2 s3 ht _ fun H4 x4 s4 => ?_
    have g4 := g3.trans x4.grow
    have hD4 := x4.keep _ _ hD3 hDφ
    have rv4 := rv3.keeps (x4.keeps s3.sub)
    cases k with
    | false =>
      rw [if_neg Bool.false_ne_true] at hc ⊢
      exact ⟨Cb, acc, accV, zs', s4, g4, hD4, rv4, by omega, hc, hz⟩
    | true =>
      rw [if_pos rfl] at hc ⊢
      obtain ⟨v, Cv, hv, hc⟩ := bnd_i hc
      obtain ⟨z, hz1, hc⟩ := bn1_i hc
      obtain ⟨zs2, C3, hc2, hc⟩ := bnd_i hc
      cases hc
      cases v with
      | cel n => cases hz1
      | dat z0 =>
        cases hz1
        refine hE' φ _ H4 Cb σ2 ρ1 _ Cv (hE2.ext x4 s3.sub) s4 hv _ fun y H5 x5 s5 r5 => ?_
        have g5 := g4.trans x5.grow
        have hD5 := x5.keep _ _ hD4 hDφ
        have rv5 := rv4.keeps (x5.keeps s4.sub)
        have kw : Keeps (fun a => M a ∨ a = Dn) (fun a => M a ∨ a = Dn) H5 (upd H5 Dn (.lst (accV ++ [y]))) := keepsW (.inr rfl)
        refine ⟨accV, hD5, by omega, Cv, acc ++ [z], accV ++ [y], zs2, s5.wroteM (.inr rfl) hDφ, ?_, upd_same, ?_, ?_, hc2, by rw [hz, List.append_assoc]; rfl⟩
        · refine ⟨g5.pre, fun a u e hn => ?_, fun a h => ?_, g5.up, g5.new⟩
          · rw [upd_ne (ne_of_none e hD)]; exact g5.keep a u e hn
          · by_cases z : a = Dn
            · subst z; rw [upd_same]; simp
            · rw [upd_ne z]; exact g5.live a h
        · exact (rv5.append (.one r5)).keeps kw
        · rw [List.length_append, List.length_singleton]; omega
  · rw [List.drop_length] at hc
    obtain ⟨hst, hc⟩ := gd_i hc
    cases hc
    refine ⟨(itr φ _ H' _ (g'.stp s1.sub) s' hst).1, ?_⟩
    have xx : Ext φ H H' := x1.trans ⟨g'.keep, g'.live⟩
    refine hQ Dn H' (x1.none_ hD) xx s' ⟨accV, hDv, by omega, ?_⟩
    rw [hz, List.append_nil]
    exact rv
theorem sim_nlc {wi : TI} {g : TG} {tt : TT} {te : TE} {vs ws : List Nat} {si : SI} {b : D → Env → Option Env} {ft : ST} {fe : SE} (hI : SimI G wi si) (hG : SimG G g b ws) (hw : ∀ i ∈ ws, i ∈ vs) (hT : SimT G tt ft) (hE' : SimE G te fe) :
    SimN G (tLc wi g tt te vs) (nLc si b ft fe vs) := by
  intro φ M H C σ ρ d C' hE hs e Q hQ
  obtain ⟨src, C1, h1, e⟩ := bnd_i e
  obtain ⟨hlen, e⟩ := gd_i e
  obtain ⟨zs, C2, h2, e⟩ := bnd_i e
  cases e
  exact lc_at hE hs (hI φ M H C σ ρ src C1 hE hs h1) hG hw hT hE' hlen h2 hQ
end
end DX

/-! DStm: statements. -/
namespace DX
open PySem PySem.Spec L2
section
variable {G : Gm}
/-- what a statement's end must serve -/
def EndR (G : Gm) (φ : List Addr) (M : Addr → Prop) (H : Hp) (o : Fl) (C' : Store) (Dd : Ends) : Prop := match o with
  | .nx ρ' => ∀ φ' M' σ' H', Grow φ M H φ' M' H' → EnvR G φ' M' H' σ' ρ' → StR G φ' M' H' C' → Dd.nx σ' H'
  | .bk ρ' => ∀ φ' M' σ' H', Grow φ M H φ' M' H' → EnvR G φ' M' H' σ' ρ' → StR G φ' M' H' C' → Dd.bk σ' H'
  | .ct ρ' => ∀ φ' M' σ' H', Grow φ M H φ' M' H' → EnvR G φ' M' H' σ' ρ' → StR G φ' M' H' C' → Dd.ct σ' H'
  | .rt s => ∀ φ' M' v H', Grow φ M H φ' M' H' → StR G φ' M' H' C' → SvR G φ' M' H' v s → Dd.rt v H'
def SimS (G : Gm) (t : TS) (f : SS) : Prop :=
  ∀ φ M H C σ ρ o C', EnvR G φ M H σ ρ → StR G φ M H C → f ρ C = some (o, C') → ∀ Dd : Ends, EndR G φ M H o C' Dd → t Dd σ H
theorem EndR.grow {φ φ1 : List Addr} {M M1 : Addr → Prop} {H H1 : Hp} {o : Fl} {C' : Store} {Dd : Ends} (h : EndR G φ M H o C' Dd) (g : Grow φ M H φ1 M1 H1) : EndR G φ1 M1 H1 o C' Dd := by
  cases o with
  | nx ρ => exact fun φ' M' σ' H' g' => h φ' M' σ' H' (g.trans g')
  | bk ρ => exact fun φ' M' σ' H' g' => h φ' M' σ' H' (g.trans g')
  | ct ρ => exact fun φ' M' σ' H' g' => h φ' M' σ' H' (g.trans g')
  | rt s => exact fun φ' M' v H' g' => h φ' M' v H' (g.trans g')

/-! ### blocks -/
def sNil : SS := fun ρ C => some (.nx ρ, C)
def sSeq (m1 m2 : SS) : SS := fun ρ C => bnd (m1 ρ C) fun o C1 => match o with
  | .nx ρ1 => m2 ρ1 C1
  | o => some (o, C1)
theorem sim_snil : SimS G tNext sNil := by
  intro φ M H C σ ρ o C' hE hs e Dd hD
  cases e
  exact hD φ M σ H Grow.refl hE hs
theorem sim_sseq {t u : TS} {f g : SS} (h1 : SimS G t f) (h2 : SimS G u g) : SimS G (tSeq t u) (sSeq f g) := by
  intro φ M H C σ ρ o C' hE hs e Dd hD
  obtain ⟨o1, C1, q1, e⟩ := bnd_i e
  refine h1 φ M H C σ ρ o1 C1 hE hs q1 _ ?_
  cases o1 with
  | nx ρ1 => exact fun φ' M' σ' H' g' hE' hs' => h2 φ' M' H' C1 σ' ρ1 o C' hE' hs' e Dd (hD.grow g')
  | bk ρ1 => cases e; exact hD
  | ct ρ1 => cases e; exact hD
  | rt s => cases e; exact hD

/-! ### small statements -/
def sDrop (f : SE) : SS := fun ρ C => bnd (f ρ C) fun _ C1 => some (.nx ρ, C1)
theorem sim_sdrop {te : TE} {f : SE} (he : SimE G te f) : SimS G (tDrop te) (sDrop f) := by
  intro φ M H C σ ρ o C' hE hs e Dd hD
  obtain ⟨v, C1, q1, e⟩ := bnd_i e
  cases e
  exact he φ M H C σ ρ v C' hE hs q1 _ fun x H1 x1 s1 r1 => hD φ M σ H1 x1.grow (hE.ext x1 hs.sub) s1
def sRet (f : SE) : SS := fun ρ C => bnd (f ρ C) fun v C1 => some (.rt v, C1)
theorem sim_sret {te : TE} {f : SE} (he : SimE G te f) : SimS G (tRet te) (sRet f) := by
  intro φ M H C σ ρ o C' hE hs e Dd hD
  obtain ⟨v, C1, q1, e⟩ := bnd_i e
  cases e
  exact he φ M H C σ ρ v C' hE hs q1 _ fun x H1 x1 s1 r1 => hD φ M x H1 x1.grow s1 r1
def sRetN : SS := fun ρ C => some (.rt (.dat .non), C)
theorem sim_sretN : SimS G tRetN sRetN := by
  intro φ M H C σ ρ o C' hE hs e Dd hD
  cases e
  exact hD φ M .non H Grow.refl hs .non
/-- a new thing that changes, at p -/
theorem alloc_ok {φ : List Addr} {M : Addr → Prop} {H : Hp} {C : Store} {p : Addr} {d : D} (hs : StR G φ (fun a => M a ∨ a = p) H C) (sub : ∀ a ∈ φ, M a) (nM : ¬ M p) (c : CelR G (fun a => M a ∨ a = p) H p d) : StR G (φ ++ [p]) (fun a => M a ∨ a = p) H (C ++ [d]) := by
  have npφ : p ∉ φ := fun z => nM (sub p z)
  refine ⟨by simp [hs.len], ?_, fun a h => ?_, hs.live, fun n e a h1 h2 => ?_⟩
  · rw [List.nodup_append]
    refine ⟨hs.nd, by simp, fun a ha b hb => ?_⟩
    have : b = p := by simpa using hb
    subst this
    exact fun z => npφ (z ▸ ha)
  · rcases List.mem_append.mp h with z | z
    · exact .inl (sub a z)
    · exact .inr (by simpa using z)
  · by_cases hn : n < C.length
    · rw [List.getElem?_append_left hn] at h1
      rw [List.getElem?_append_left (by rw [hs.len]; exact hn)] at h2
      exact hs.cel n e a h1 h2
    · have hl := hs.len
      have en : n = C.length := by
        have := (List.getElem?_eq_some_iff.mp h1).1
        simp at this
        omega
      subst en
      rw [List.getElem?_concat_length] at h1
      rw [← hl, List.getElem?_concat_length] at h2
      cases h1
      cases h2
      exact c
/-- the growth with it -/
theorem alloc_grow {φ : List Addr} {M : Addr → Prop} {H H' : Hp} {p : Addr} (x : Ext φ H H') (hp : H p = none) : Grow φ M H (φ ++ [p]) (fun a => M a ∨ a = p) H' :=
  ⟨⟨[p], rfl, fun q hq => by rw [List.mem_singleton.mp hq]; exact hp⟩, x.keep, x.live, fun _ h => .inl h, fun a h => by
    rcases h with h | h
    · exact .inl h
    · rw [h]; exact .inr hp⟩
/-- name = a new thing that changes -/
def sNew (i : Nat) (f : SN) : SS := fun ρ C => bnd (f ρ C) fun d C1 => some (.nx (ρ.set i (some (.cel C1.length))), C1 ++ [d])
theorem sim_snew {i : Nat} {te : TE} {f : SN} (he : SimN G te f) : SimS G (tAsg te (gName i)) (sNew i f) := by
  intro φ M H C σ ρ o C' hE hs e Dd hD
  obtain ⟨d, C1, q1, e⟩ := bnd_i e
  cases e
  refine he φ M H C σ ρ d C1 hE hs q1 _ fun p H1 hp x1 s1 c1 => ?_
  have g := alloc_grow (M := M) x1 hp
  have s2 := alloc_ok s1 hs.sub (fun z => hs.live p z hp) c1
  refine hD _ _ _ H1 g ((hE.grow g hs.sub).set i (s := .cel C1.length) ⟨p, ?_, rfl⟩) s2
  have hl := s1.len
  rw [← hl]
  exact List.getElem?_concat_length
/-- name = value -/
def sSet (i : Nat) (f : SE) : SS := fun ρ C => bnd (f ρ C) fun v C1 => some (.nx (ρ.set i (some v)), C1)
theorem sim_sset {i : Nat} {te : TE} {f : SE} (he : SimE G te f) : SimS G (tAsg te (gName i)) (sSet i f) := by
  intro φ M H C σ ρ o C' hE hs e Dd hD
  obtain ⟨v, C1, q1, e⟩ := bnd_i e
  cases e
  exact he φ M H C σ ρ v C' hE hs q1 _ fun x H1 x1 s1 r1 => hD φ M _ H1 x1.grow ((hE.ext x1 hs.sub).set i r1) s1
/-- targets = value -/
def sUnp (b : D → Env → Option Env) (f : SE) : SS := fun ρ C => bnd (f ρ C) fun v C1 => bn1 (datOf v) fun d => bn1 (b d ρ) fun ρ1 => some (.nx ρ1, C1)
theorem sim_sunp {te : TE} {g : TG} {b : D → Env → Option Env} {vs : List Nat} {f : SE} (he : SimE G te f) (hg : SimG G g b vs) : SimS G (tAsg te g) (sUnp b f) := by
  intro φ M H C σ ρ o C' hE hs e Dd hD
  obtain ⟨v, C1, q1, e⟩ := bnd_i e
  obtain ⟨d, q2, e⟩ := bn1_i e
  obtain ⟨ρ1, q3, e⟩ := bn1_i e
  cases e
  refine he φ M H C σ ρ v C' hE hs q1 _ fun x H1 x1 s1 r1 => ?_
  cases v with
  | dat d' =>
    cases q2
    exact hg φ M H1 C' σ ρ x _ ρ1 (hE.ext x1 hs.sub) s1 r1 q3 _ fun σ' hE' _ _ => hD φ M σ' H1 x1.grow hE' s1
  | cel n => cases q2
/-- return of a new thing -/
def sRetNew (f : SN) : SS := fun ρ C => bnd (f ρ C) fun d C1 => some (.rt (.cel C1.length), C1 ++ [d])
theorem sim_sretnew {te : TE} {f : SN} (he : SimN G te f) : SimS G (tRet te) (sRetNew f) := by
  intro φ M H C σ ρ o C' hE hs e Dd hD
  obtain ⟨d, C1, q1, e⟩ := bnd_i e
  cases e
  refine he φ M H C σ ρ d C1 hE hs q1 _ fun p H1 hp x1 s1 c1 => ?_
  refine hD _ _ _ H1 (alloc_grow (M := M) x1 hp) (alloc_ok s1 hs.sub (fun z => hs.live p z hp) c1) ⟨p, ?_, rfl⟩
  rw [← s1.len]
  exact List.getElem?_concat_length

/-! ### if -/
def sIf (c : ST) (f g : SS) : SS := fun ρ C => bnd (c ρ C) fun b C1 => if b = true then f ρ C1 else g ρ C1
theorem sim_sif {tc : TT} {t u : TS} {c : ST} {f g : SS} (hc : SimT G tc c) (h1 : SimS G t f) (h2 : SimS G u g) : SimS G (tIfS tc t u) (sIf c f g) := by
  intro φ M H C σ ρ o C' hE hs e Dd hD
  obtain ⟨b, C1, q1, e⟩ := bnd_i e
  refine hc φ M H C σ ρ b C1 hE hs q1 _ fun H1 x1 s1 => ?_
  cases b with
  | true => exact h1 φ M H1 C1 σ ρ o C' (hE.ext x1 hs.sub) s1 e Dd (hD.grow x1.grow)
  | false => exact h2 φ M H1 C1 σ ρ o C' (hE.ext x1 hs.sub) s1 e Dd (hD.grow x1.grow)
def sBk : SS := fun ρ C => some (.bk ρ, C)
def sCt : SS := fun ρ C => some (.ct ρ, C)
theorem sim_sbk : SimS G tBreak sBk := by
  intro φ M H C σ ρ o C' hE hs e Dd hD
  cases e
  exact hD φ M σ H Grow.refl hE hs
theorem sim_sct : SimS G tCont sCt := by
  intro φ M H C σ ρ o C' hE hs e Dd hD
  cases e
  exact hD φ M σ H Grow.refl hE hs

/-! ### for -/
def forL (cels : List (Nat × D)) (b : D → Env → Option Env) (body : SS) : List D → Env → Store → Option (Fl × Store)
  | [], ρ, C => gd (stays C cels = true) (some (.nx ρ, C))
  | d :: ds, ρ, C => gd (stays C cels = true) (bn1 (b d ρ) fun ρ1 => bnd (body ρ1 C) fun o C1 => match o with
    | .nx ρ2 => forL cels b body ds ρ2 C1
    | .ct ρ2 => forL cels b body ds ρ2 C1
    | .bk ρ2 => some (.nx ρ2, C1)
    | .rt v => some (.rt v, C1))
def sFor (si : SI) (b : D → Env → Option Env) (body : SS) : SS := fun ρ C => bnd (si ρ C) fun src C1 => forL src.cels b body src.items ρ C1
theorem for_by {J : It} {n : Nat} {g : TG} {tb : TS} {Dd : Ends} {σ : L2.St} {H : Hp} (Pv : Nat → L2.St → Hp → Prop) (h0 : Pv 0 σ H)
    (hs : ∀ i σ H, i < n → Pv i σ H → J.go i H ∧ ∀ x H', J.yld i H x H' → g x σ H' fun σ2 H2 => tb { Dd with nx := Pv (i + 1), ct := Pv (i + 1), bk := Dd.nx } σ2 H2) (hd : ∀ σ H, Pv n σ H → J.stop n H ∧ Dd.nx σ H) :
    ∃ W : Nat → Nat → L2.St → Hp → Prop, (∃ m, W 0 m σ H) ∧ ∀ i m σ H, W i m σ H →
      (J.stop i H ∧ Dd.nx σ H) ∨ (J.go i H ∧ ∃ N : L2.St → Hp → Prop, (∀ σ' H', N σ' H' → ∃ m', m' < m ∧ W (i + 1) m' σ' H') ∧ ∀ x H', J.yld i H x H' → g x σ H' fun σ2 H2 => tb { Dd with nx := N, ct := N, bk := Dd.nx } σ2 H2) := by
  refine ⟨fun i m σ H => m = n - i ∧ i ≤ n ∧ Pv i σ H, ⟨n, by simp, Nat.zero_le _, h0⟩, fun i m σ H ⟨hm, hi, p⟩ => ?_⟩
  subst hm
  by_cases hlt : i < n
  · obtain ⟨a, b⟩ := hs i σ H hlt p
    exact .inr ⟨a, Pv (i + 1), fun σ' H' p' => ⟨n - (i + 1), by omega, rfl, hlt, p'⟩, b⟩
  · have e : i = n := by omega
    subst e
    exact .inl (hd σ H p)
theorem for_at {φ : List Addr} {M : Addr → Prop} {H : Hp} {C : Store} {σ : L2.St} {ρ : Env} {wi : TI} {g : TG} {tb : TS} {b : D → Env → Option Env} {ws : List Nat} {body : SS} {src : Src} {C1 C' : Store} {o : Fl} {Dd : Ends} (hE : EnvR G φ M H σ ρ) (hs : StR G φ M H C)
    (hI : ∀ R : It → Hp → Prop, (∀ J H', Ext φ H H' → StR G φ M H' C1 → ItR G φ M H' J src → R J H') → wi σ H R) (hG : SimG G g b ws) (hB : SimS G tb body) (e : forL src.cels b body src.items ρ C1 = some (o, C')) (hD : EndR G φ M H o C' Dd) : tFor wi g tb Dd σ H := by
  refine hI _ fun J H1 x1 s1 itr => ?_
  refine for_by (n := src.items.length) (fun i σ' H' => ∃ φ' M' Ci ρi, Grow φ M H1 φ' M' H' ∧ StR G φ' M' H' Ci ∧ EnvR G φ' M' H' σ' ρi ∧ forL src.cels b body (src.items.drop i) ρi Ci = some (o, C')) ⟨φ, M, C1, ρ, Grow.refl, s1, hE.ext x1 hs.sub, by simpa using e⟩
    (fun i σ' H' hlt ⟨φ', M', Ci, ρi, g', s', hE', hc⟩ => ?_) (fun σ' H' ⟨φ', M', Ci, ρi, g', s', hE', hc⟩ => ?_)
  · have hget : src.items[i]? = some src.items[i] := List.getElem?_eq_getElem hlt
    have hdrop : src.items.drop i = src.items[i] :: src.items.drop (i + 1) := List.drop_eq_getElem_cons hlt
    rw [hdrop] at hc
    obtain ⟨hst, hc⟩ := gd_i hc
    obtain ⟨jstop, jgo⟩ := itr φ' M' H' Ci (g'.stp s1.sub) s' hst
    obtain ⟨ρ1, hb, hc⟩ := bn1_i hc
    obtain ⟨o1, Cb, ht, hc⟩ := bnd_i hc
    obtain ⟨go, yl⟩ := jgo i _ hget
    refine ⟨go, fun x H3 y => ?_⟩
    obtain ⟨hst3, rx⟩ := yl x H3 y
    obtain ⟨x3, s3⟩ := Rp.step s' hst3
    have g3 := g'.trans x3.grow
    refine hG φ' M' H3 Ci σ' ρi x _ ρ1 (hE'.ext x3 s'.sub) s3 rx hb _ fun σ2 hE2 _ _ => ?_
    refine hB φ' M' H3 Ci σ2 ρ1 o1 Cb hE2 s3 ht _ ?_
    cases o1 with
    | nx ρ2 => exact fun φ4 M4 σ4 H4 g4 hE4 s4 => ⟨φ4, M4, Cb, ρ2, g3.trans g4, s4, hE4, hc⟩
    | ct ρ2 => exact fun φ4 M4 σ4 H4 g4 hE4 s4 => ⟨φ4, M4, Cb, ρ2, g3.trans g4, s4, hE4, hc⟩
    | bk ρ2 => cases hc; exact fun φ4 M4 σ4 H4 g4 hE4 s4 => hD φ4 M4 σ4 H4 (x1.grow.trans (g3.trans g4)) hE4 s4
    | rt v => cases hc; exact fun φ4 M4 u H4 g4 s4 r4 => hD φ4 M4 u H4 (x1.grow.trans (g3.trans g4)) s4 r4
  · rw [List.drop_length] at hc
    obtain ⟨hst, hc⟩ := gd_i hc
    cases hc
    exact ⟨(itr φ' M' H' _ (g'.stp s1.sub) s' hst).1, hD φ' M' σ' H' (x1.grow.trans g') hE' s'⟩
theorem sim_sfor {wi : TI} {g : TG} {tb : TS} {si : SI} {b : D → Env → Option Env} {ws : List Nat} {body : SS} (hI : SimI G wi si) (hG : SimG G g b ws) (hB : SimS G tb body) : SimS G (tFor wi g tb) (sFor si b body) := by
  intro φ M H C σ ρ o C' hE hs e Dd hD
  obtain ⟨src, C1, h1, e⟩ := bnd_i e
  exact for_at hE hs (hI φ M H C σ ρ src C1 hE hs h1) hG hB e hD

/-! ### while -/
def whileL (c : ST) (body : SS) : Nat → Env → Store → Option (Fl × Store)
  | 0, _, _ => none
  | n + 1, ρ, C => bnd (c ρ C) fun b C1 => if b = true then bnd (body ρ C1) fun o C2 => match o with
    | .nx ρ2 => whileL c body n ρ2 C2
    | .ct ρ2 => whileL c body n ρ2 C2
    | .bk ρ2 => some (.nx ρ2, C2)
    | .rt v => some (.rt v, C2)
    else some (.nx ρ, C1)
theorem sim_swhile {tc : TT} {tb : TS} {c : ST} {body : SS} {n : Nat} (hc : SimT G tc c) (hB : SimS G tb body) : SimS G (tWhile tc tb) (whileL c body n) := by
  intro φ M H C σ ρ o C' hE hs e Dd hD
  refine ⟨fun m σ' H' => ∃ φ' M' Ci ρi, Grow φ M H φ' M' H' ∧ StR G φ' M' H' Ci ∧ EnvR G φ' M' H' σ' ρi ∧ whileL c body m ρi Ci = some (o, C'), ⟨n, φ, M, C, ρ, Grow.refl, hs, hE, e⟩, fun m σ' H' ⟨φ', M', Ci, ρi, g', s', hE', hw⟩ => ?_⟩
  cases m with
  | zero => cases hw
  | succ m =>
    obtain ⟨b, C1, q1, hw⟩ := bnd_i hw
    refine hc φ' M' H' Ci σ' ρi b C1 hE' s' q1 _ fun H1 x1 s1 => ?_
    have g1 := g'.trans x1.grow
    cases b with
    | true =>
      rw [if_pos rfl] at hw ⊢
      obtain ⟨o1, C2, q2, hw⟩ := bnd_i hw
      refine ⟨fun σ2 H2 => ∃ φ' M' Ci ρi, Grow φ M H φ' M' H2 ∧ StR G φ' M' H2 Ci ∧ EnvR G φ' M' H2 σ2 ρi ∧ whileL c body m ρi Ci = some (o, C'), fun σ2 H2 w => ⟨m, Nat.lt_succ_self _, w⟩, ?_⟩
      refine hB φ' M' H1 C1 σ' ρi o1 C2 (hE'.ext x1 s'.sub) s1 q2 _ ?_
      cases o1 with
      | nx ρ2 => exact fun φ4 M4 σ4 H4 g4 hE4 s4 => ⟨φ4, M4, C2, ρ2, g1.trans g4, s4, hE4, hw⟩
      | ct ρ2 => exact fun φ4 M4 σ4 H4 g4 hE4 s4 => ⟨φ4, M4, C2, ρ2, g1.trans g4, s4, hE4, hw⟩
      | bk ρ2 => cases hw; exact fun φ4 M4 σ4 H4 g4 hE4 s4 => hD φ4 M4 σ4 H4 (g1.trans g4) hE4 s4
      | rt v => cases hw; exact fun φ4 M4 u H4 g4 s4 r4 => hD φ4 M4 u H4 (g1.trans g4) s4 r4
    | false =>
      rw [if_neg Bool.false_ne_true] at hw ⊢
      cases hw
      exact hD φ' M' σ' H1 g1 (hE'.ext x1 s'.sub) s1
end
end DX

/-! DMut: what changes a list or a dict of ours. -/
namespace DX
open PySem PySem.Spec L2
section
variable {G : Gm} {φ : List Addr} {M : Addr → Prop} {H : Hp} {C : Store}
theorem get_set {C : Store} {n m : Nat} {d e : D} (h : (C.set n d)[m]? = some e) : (m = n ∧ e = d ∧ n < C.length) ∨ (m ≠ n ∧ C[m]? = some e) := by
  by_cases hm : n = m
  · subst hm
    by_cases hl : n < C.length
    · rw [List.getElem?_set_self hl] at h
      cases h
      exact .inl ⟨rfl, rfl, hl⟩
    · rw [List.getElem?_eq_none (by simpa using hl)] at h; cases h
  · rw [List.getElem?_set_ne hm] at h
    exact .inr ⟨Ne.symm hm, h⟩
/-- the n-th of ours, at p, holds something else now -/
theorem wrote_ok {n : Nat} {p : Addr} {d' : D} {o : HO} (hs : StR G φ M H C) (hp : φ[n]? = some p) (c : CelR G M (upd H p o) p d') : StR G φ M (upd H p o) (C.set n d') := by
  have hpφ : p ∈ φ := List.mem_of_getElem? hp
  refine ⟨by simp [hs.len], hs.nd, hs.sub, fun a h => ?_, fun m e a h1 h2 => ?_⟩
  · by_cases z : a = p
    · subst z; rw [upd_same]; simp
    · rw [upd_ne z]; exact hs.live a h
  · rcases get_set h1 with ⟨rfl, rfl, _⟩ | ⟨hm, h1⟩
    · rw [hp] at h2
      cases h2
      exact c
    · have ha : a ≠ p := fun z => by
        subst z
        obtain ⟨l1, e1⟩ := List.getElem?_eq_some_iff.mp hp
        obtain ⟨l2, e2⟩ := List.getElem?_eq_some_iff.mp h2
        exact hm ((List.getElem_inj hs.nd).mp (e2.trans e1.symm))
      exact (hs.cel m e a h1 h2).keeps (keepsW (hs.sub p hpφ)) fun u q => by rw [upd_ne ha]; exact q
theorem CelR.lstW {p : Addr} {vs : List V} {ds : List D} (hp : M p) (l : vs.length ≤ sizeLine) (r : RpL G M H vs ds) : CelR G M (upd H p (.lst vs)) p (.lst ds) := ⟨vs, upd_same, l, r.keeps (keepsW hp)⟩
theorem CelR.dKW {p : Addr} {vs : List (Key × V)} {ds : List (Key × D)} (hp : M p) (l : vs.length ≤ sizeLine) (e : vs.map (·.1) = ds.map (·.1)) (r : RpL G M H (vs.map (·.2)) (ds.map (·.2))) : CelR G M (upd H p (.dK vs)) p (.dK ds) := ⟨vs, upd_same, l, e, r.keeps (keepsW hp)⟩
theorem CelR.dTW {p : Addr} {vs : List (List Key × V)} {ds : List (List Key × D)} (hp : M p) (l : vs.length ≤ sizeLine) (e : vs.map (·.1) = ds.map (·.1)) (r : RpL G M H (vs.map (·.2)) (ds.map (·.2))) : CelR G M (upd H p (.dT vs)) p (.dT ds) := ⟨vs, upd_same, l, e, r.keeps (keepsW hp)⟩

/-- the list that a slot's value is, to be changed -/
def lstAt (C : Store) (v : Sv) : Option (Nat × List D) := match v with
  | .cel n => match C[n]? with
    | some (.lst ds) => some (n, ds)
    | _ => none
  | _ => none
theorem lstAt_some {v : Sv} {n : Nat} {ds : List D} (h : lstAt C v = some (n, ds)) : v = .cel n ∧ C[n]? = some (.lst ds) := by
  unfold lstAt at h
  split at h
  · split at h
    · rename_i h2; cases h; exact ⟨rfl, h2⟩
    · cases h
  · cases h
theorem StR.lst {v : Sv} {x : V} {n : Nat} {ds : List D} (hs : StR G φ M H C) (r : SvR G φ M H x v) (h : lstAt C v = some (n, ds)) : ∃ p vs, x = .ref p ∧ φ[n]? = some p ∧ H p = some (.lst vs) ∧ vs.length ≤ sizeLine ∧ RpL G M H vs ds := by
  obtain ⟨rfl, h2⟩ := lstAt_some h
  obtain ⟨p, h3, h4⟩ := r
  obtain ⟨vs, a, b, c⟩ := hs.cel n _ p h2 h3
  exact ⟨p, vs, h4, h3, a, b, c⟩

/-- x.append(e) -/
def eApp (f g : SE) : SE := fun ρ C => bnd (f ρ C) fun v C1 => bn1 (lstAt C1 v) fun _ => bnd (g ρ C1) fun w C2 => bn1 (lstAt C2 v) fun nd => bn1 (datOf w) fun z => gd (nd.2.length < sizeLine) (some (.dat .non, C2.set nd.1 (.lst (nd.2 ++ [z]))))
theorem sim_app {to te : TE} {f g : SE} (ho : SimE G to f) (he : SimE G te g) : SimE G (tBM G.K "list" rAppend to (tCons te tNil)) (eApp f g) := by
  intro φ M H C σ ρ s C' hE hs e Q hQ
  obtain ⟨v, C1, h1, e⟩ := bnd_i e
  obtain ⟨n0, h2, e⟩ := bn1_i e
  obtain ⟨w, C2, h3, e⟩ := bnd_i e
  obtain ⟨nd, h4, e⟩ := bn1_i e
  obtain ⟨z, h5, e⟩ := bn1_i e
  obtain ⟨h6, e⟩ := gd_i e
  cases e
  obtain ⟨n, ds⟩ := nd
  refine ho φ M H C σ ρ v C1 hE hs h1 _ fun x H1 x1 s1 r1 => ?_
  obtain ⟨p, vs, rfl, _, hv, _, _⟩ := s1.lst r1 h2
  refine ⟨.inl ⟨rfl, _, .inl (.inl hv)⟩, ?_⟩
  refine he φ M H1 C1 σ ρ w C2 (hE.ext x1 hs.sub) s1 h3 _ fun y H2 x2 s2 r2 => ?_
  obtain ⟨p', vs2, ep, hp, hv2, l2, rl⟩ := s2.lst (r1.ext x2 hs.sub) h4
  cases ep
  have hpφ : p ∈ φ := List.mem_of_getElem? hp
  have ll := rl.length
  cases w with
  | cel m => cases h5
  | dat z' =>
    cases h5
    have h6' : ds.length < sizeLine := h6
    refine ⟨p, vs2, y, rfl, rfl, hv2, by omega, ?_⟩
    refine hQ .non _ ((x1.trans x2).trans (Ext.wrote hpφ)) (wrote_ok s2 hp (CelR.lstW (s2.sub p hpφ) ?_ (rl.append (.one r2)))) .non
    rw [List.length_append, List.length_singleton]
    omega
/-- x.pop() -/
def ePop (f : SE) : SE := fun ρ C => bnd (f ρ C) fun v C1 => bn1 (lstAt C1 v) fun nd => bn1 (nd.2[nd.2.length - 1]?) fun z => some (.dat z, C1.set nd.1 (.lst nd.2.dropLast))
theorem RpL.dropLast : ∀ {vs : List V} {ds : List D}, RpL G M H vs ds → RpL G M H vs.dropLast ds.dropLast := fun {vs ds} r => by
  have e1 : vs.dropLast = vs.take (vs.length - 1) := by rw [List.dropLast_eq_take]
  have e2 : ds.dropLast = ds.take (ds.length - 1) := by rw [List.dropLast_eq_take]
  rw [e1, e2, r.length]
  exact r.take _
theorem sim_pop {to : TE} {f : SE} (ho : SimE G to f) : SimE G (tBM0 G.K "list" rPop to) (ePop f) := by
  intro φ M H C σ ρ s C' hE hs e Q hQ
  obtain ⟨v, C1, h1, e⟩ := bnd_i e
  obtain ⟨nd, h4, e⟩ := bn1_i e
  obtain ⟨z, h5, e⟩ := bn1_i e
  cases e
  obtain ⟨n, ds⟩ := nd
  refine ho φ M H C σ ρ v C1 hE hs h1 _ fun x H1 x1 s1 r1 => ?_
  obtain ⟨p, vs, rfl, hp, hv, l, rl⟩ := s1.lst r1 h4
  have hpφ : p ∈ φ := List.mem_of_getElem? hp
  obtain ⟨u, hu, ru⟩ := rl.get h5
  have ll := rl.length
  refine ⟨.inl ⟨rfl, _, .inl (.inl hv)⟩, p, vs, u, rfl, rfl, hv, by rw [ll]; exact hu, ?_⟩
  refine hQ u _ (x1.trans (Ext.wrote hpφ)) (wrote_ok s1 hp (CelR.lstW (s1.sub p hpφ) ?_ rl.dropLast)) (Rp.keeps (keepsW (s1.sub p hpφ)) ru)
  rw [List.length_dropLast]; omega
/-- x.pop(i) -/
def ePopAt (f g : SE) : SE := fun ρ C => bnd (f ρ C) fun v C1 => bn1 (lstAt C1 v) fun _ => bnd (g ρ C1) fun w C2 => bn1 (lstAt C2 v) fun nd => match w with
  | .dat (.int i) => bn1 (ixN nd.2.length i) fun k => bn1 (nd.2[k]?) fun z => some (.dat z, C2.set nd.1 (.lst (nd.2.eraseIdx k)))
  | _ => none
theorem sim_popAt {to te : TE} {f g : SE} (ho : SimE G to f) (he : SimE G te g) : SimE G (tBM G.K "list" rPopAt to (tCons te tNil)) (ePopAt f g) := by
  intro φ M H C σ ρ s C' hE hs e Q hQ
  obtain ⟨v, C1, h1, e⟩ := bnd_i e
  obtain ⟨n0, h2, e⟩ := bn1_i e
  obtain ⟨w, C2, h3, e⟩ := bnd_i e
  obtain ⟨nd, h4, e⟩ := bn1_i e
  obtain ⟨n, ds⟩ := nd
  refine ho φ M H C σ ρ v C1 hE hs h1 _ fun x H1 x1 s1 r1 => ?_
  obtain ⟨p, vs, rfl, _, hv, _, _⟩ := s1.lst r1 h2
  refine ⟨.inl ⟨rfl, _, .inl (.inl hv)⟩, ?_⟩
  refine he φ M H1 C1 σ ρ w C2 (hE.ext x1 hs.sub) s1 h3 _ fun y H2 x2 s2 r2 => ?_
  obtain ⟨p', vs2, ep, hp, hv2, l2, rl⟩ := s2.lst (r1.ext x2 hs.sub) h4
  cases ep
  have hpφ : p ∈ φ := List.mem_of_getElem? hp
  have ll := rl.length
  cases w with
  | cel m => cases e
  | dat d =>
    cases d with
    | int i =>
      obtain ⟨k, h5, e⟩ := bn1_i e
      obtain ⟨z, h6, e⟩ := bn1_i e
      cases e
      obtain ⟨u, hu, ru⟩ := rl.get h6
      have h5' : ixN ds.length i = some k := h5
      obtain ⟨q1, q2, q3, q4⟩ := ixN_seq h5'
      have hz : sizeLine = 16777216 := sizeLine_eq
      refine ⟨p, vs2, i, k, u, rfl, by rw [Rp.intI r2], hv2, by omega, by omega, by rw [ll]; exact q1, hu, ?_⟩
      refine hQ u _ ((x1.trans x2).trans (Ext.wrote hpφ)) (wrote_ok s2 hp (CelR.lstW (s2.sub p hpφ) ?_ (rl.eraseIdx k))) (Rp.keeps (keepsW (s2.sub p hpφ)) ru)
      have := len_erase vs2 k
      omega
    | _ => cases e

/-! ### x[i] = e -/
def rSetD : V → V → V → Hp → (Hp → Prop) → Prop := fun o i v H Q => ∃ a H', o = .ref a ∧ DPut H a i v H' ∧ Q H'
def rSet0 : V → V → V → Hp → (Hp → Prop) → Prop := fun o i v H Q => rSetL o i v H Q ∨ rSetD o i v H Q
end
theorem set_0 {X : Cx} (hu : X.A.units + 1 < cLine) : PSet X rSet0 := by
  intro pins s σ H o i v ov iv u Q I ro ri rv h
  rcases h with h | ⟨a, H', rfl, g, q⟩
  · exact set_list pins s σ H o i v ov iv u Q I ro ri rv h
  · cases ro
    exact d_setItem hu I g ri rv fun s' I' => ⟨H', I', q⟩
section
variable {G : Gm} {φ : List Addr} {M : Addr → Prop} {H : Hp} {C : Store}
/-- the content behind x[i] = z -/
def putAt (c i z : D) : Option D := match c with
  | .lst ds => match i with
    | .int i => bn1 (ixN ds.length i) fun k => some (.lst (ds.set k z))
    | _ => none
  | .dK kvs => bn1 (dKey i) fun k => gd (kvs.length < sizeLine) (some (.dK (dPut kvs k z)))
  | .dT kvs => match i with
    | .tup ks => bn1 (dKeys ks) fun k => gd (kvs.length < sizeLine) (some (.dT (dPut kvs k z)))
    | _ => none
  | _ => none
def sPut (f g h : SE) : SS := fun ρ C => bnd (f ρ C) fun z C1 => bnd (g ρ C1) fun v C2 => bnd (h ρ C2) fun i C3 => bn1 (datOf z) fun z => bn1 (see C3 i) fun i => match v with
  | .cel n => bn1 (C3[n]?) fun c => bn1 (putAt c i z) fun c' => some (.nx ρ, C3.set n c')
  | _ => none
theorem put_len {κ α : Type} [DecidableEq κ] (kvs : List (κ × α)) (k : κ) (v : α) : (dPut kvs k v).length ≤ kvs.length + 1 := by
  unfold dPut
  split <;> simp
theorem put_rel {κ : Type} [DecidableEq κ] {v : V} {z : D} (r : Rp G M H v z) (k : κ) : ∀ {kvs : List (κ × V)} {ds : List (κ × D)}, kvs.map (·.1) = ds.map (·.1) → RpL G M H (kvs.map (·.2)) (ds.map (·.2)) →
    (putK kvs k v).map (·.1) = (dPut ds k z).map (·.1) ∧ RpL G M H ((putK kvs k v).map (·.2)) ((dPut ds k z).map (·.2)) := by
  have any_eq : ∀ {kvs : List (κ × V)} {ds : List (κ × D)}, kvs.map (·.1) = ds.map (·.1) → (kvs.any fun kv => decide (kv.1 = k)) = (ds.any fun kv => decide (kv.1 = k)) := by
    intro kvs
    induction kvs with
    | nil => intro ds e; cases ds with | nil => rfl | cons _ _ => simp at e
    | cons a kvs ih =>
      intro ds e
      cases ds with
      | nil => simp at e
      | cons b ds =>
        simp only [List.map_cons, List.cons.injEq] at e
        rw [List.any_cons, List.any_cons, e.1, ih e.2]
  have map_eq : ∀ {kvs : List (κ × V)} {ds : List (κ × D)}, kvs.map (·.1) = ds.map (·.1) → RpL G M H (kvs.map (·.2)) (ds.map (·.2)) →
      (kvs.map (fun kv => if kv.1 = k then (kv.1, v) else kv)).map (·.1) = (ds.map (fun kv => if kv.1 = k then (kv.1, z) else kv)).map (·.1) ∧ RpL G M H ((kvs.map (fun kv => if kv.1 = k then (kv.1, v) else kv)).map (·.2)) ((ds.map (fun kv => if kv.1 = k then (kv.1, z) else kv)).map (·.2)) := by
    intro kvs
    induction kvs with
    | nil => intro ds e rl; cases ds with | nil => exact ⟨rfl, .nil⟩ | cons _ _ => simp at e
    | cons a kvs ih =>
      intro ds e rl
      cases ds with
      | nil => simp at e
      | cons b ds =>
        simp only [List.map_cons, List.cons.injEq] at e
        cases rl with
        | cons r1 rl =>
          obtain ⟨i1, i2⟩ := ih e.2 rl
          simp only [List.map_cons]
          by_cases h : a.1 = k
          · have h' : b.1 = k := e.1.symm.trans h
            rw [if_pos h, if_pos h']
            exact ⟨by rw [i1, e.1], .cons r i2⟩
          · have h' : ¬ b.1 = k := fun q => h (e.1.trans q)
            rw [if_neg h, if_neg h']
            exact ⟨by rw [i1, e.1], .cons r1 i2⟩
  intro kvs ds e rl
  unfold putK dPut
  rw [any_eq e]
  by_cases h : (ds.any fun kv => decide (kv.1 = k)) = true
  · rw [if_pos h, if_pos h]
    exact map_eq e rl
  · rw [if_neg h, if_neg h]
    rw [List.map_append, List.map_append, List.map_append, List.map_append]
    exact ⟨by rw [e]; rfl, rl.append (.one r)⟩
theorem sim_sput {tz to ti : TE} {f g h : SE} (hf : SimE G tz f) (hg : SimE G to g) (hh : SimE G ti h) : SimS G (tAsg tz (gSub to ti rSet0)) (sPut f g h) := by
  intro φ M H C σ ρ o C' hE hs e Dd hD
  obtain ⟨zv, C1, h1, e1⟩ := bnd_i e
  obtain ⟨v, C2, h2, e2⟩ := bnd_i e1
  obtain ⟨iv, C3, h3, e3⟩ := bnd_i e2
  obtain ⟨z, h4, e4⟩ := bn1_i e3
  obtain ⟨i, h5, e5⟩ := bn1_i e4
  clear e e1 e2 e3 e4
  cases zv with
  | cel m => cases h4
  | dat z' =>
  cases h4
  cases v with
  | dat d => cases e5
  | cel n =>
    obtain ⟨c, h6, e6⟩ := bn1_i e5
    obtain ⟨c', h7, e7⟩ := bn1_i e6
    clear e5 e6
    cases e7
    refine hf φ M H C σ ρ _ C1 hE hs h1 _ fun x H1 x1 s1 r1 => ?_
    refine hg φ M H1 C1 σ ρ _ C2 (hE.ext x1 hs.sub) s1 h2 _ fun y H2 x2 s2 r2 => ?_
    refine hh φ M H2 C2 σ ρ _ C3 (hE.ext (x1.trans x2) hs.sub) s2 h3 _ fun w H3 x3 s3 r3 => ?_
    have xx := (x1.trans x2).trans x3
    obtain ⟨p, hp, rfl⟩ := r2
    have hpφ : p ∈ φ := List.mem_of_getElem? hp
    have rz : Rp G M H3 x z := Rp.keeps ((x2.trans x3).keeps hs.sub) r1
    have cc := s3.cel n c p h6 hp
    have fin : ∀ {o : HO}, CelR G M (upd H3 p o) p c' → Dd.nx σ (upd H3 p o) := fun {o} q => hD φ M σ _ (xx.trans (Ext.wrote hpφ)).grow (hE.ext (xx.trans (Ext.wrote hpφ)) hs.sub) (wrote_ok s3 hp q)
    cases c with
    | lst ds =>
      cases i with
      | int k =>
        obtain ⟨j, h8, h7⟩ := bn1_i (show bn1 (ixN ds.length k) _ = some c' from h7)
        cases h7
        obtain ⟨vs, q1, q2, q3⟩ := cc
        refine .inl ⟨p, vs, k, j, rfl, (s3.see_rp r3 h5).intI, q1, by rw [q3.length]; exact h8, fin (CelR.lstW (s3.sub p hpφ) (by rw [List.length_set]; exact q2) (q3.set rz j))⟩
      | _ => cases h7
    | dK kvs =>
      obtain ⟨k, h8, h7⟩ := bn1_i (show bn1 (dKey i) _ = some c' from h7)
      obtain ⟨h9, h7⟩ := gd_i h7
      cases h7
      obtain ⟨vs, q1, q2, q3, q4⟩ := cc
      obtain ⟨w1, w2⟩ := put_rel rz k q3 q4
      have lk := lenKeys q3
      refine .inr ⟨p, _, rfl, .inl ⟨vs, k, q1, (s3.see_rp r3 h5).key h8, by omega, rfl⟩, fin (CelR.dKW (s3.sub p hpφ) ?_ w1 w2)⟩
      have := length_putK vs k x
      omega
    | dT kvs =>
      cases i with
      | tup ks =>
        obtain ⟨k, h8, h7⟩ := bn1_i (show bn1 (dKeys ks) _ = some c' from h7)
        obtain ⟨h9, h7⟩ := gd_i h7
        cases h7
        obtain ⟨vs, q1, q2, q3, q4⟩ := cc
        obtain ⟨w1, w2⟩ := put_rel rz k q3 q4
        have lk := lenKeys q3
        obtain ⟨b, us, rfl, t1, t2, t3⟩ := s3.seeT r3 h5
        have ev := t3.keys h8
        subst ev
        refine .inr ⟨p, _, rfl, .inr ⟨vs, k, b, q1, rfl, t1.2, by omega, rfl⟩, fin (CelR.dTW (s3.sub p hpφ) ?_ w1 w2)⟩
        have := length_putK vs k x
        omega
      | _ => cases h7
    | _ => cases h7

/-! ### new dicts -/
def nDK : SN := fun _ C => some (.dK [], C)
def nDT : SN := fun _ C => some (.dT [], C)
theorem sim_ndk : SimN G tDNewK nDK := by
  intro φ M H C σ ρ d C' hE hs e Q hQ
  cases e
  exact fun p hp => hQ p _ hp (Ext.laid hp) (hs.laidM hp) ⟨[], upd_same, Nat.zero_le _, rfl, .nil⟩
theorem sim_ndt : SimN G tDNewT nDT := by
  intro φ M H C σ ρ d C' hE hs e Q hQ
  cases e
  exact fun p hp => hQ p _ hp (Ext.laid hp) (hs.laidM hp) ⟨[], upd_same, Nat.zero_le _, rfl, .nil⟩
end
end DX

/-! DCall: calls, and the promise of a def. -/
namespace DX
open PySem PySem.Spec L2
abbrev FE := List Sv → Store → Option (Sv × Store)
abbrev FN := List Sv → Store → Option (D × Store)
section
variable {G : Gm} {φ φ' : List Addr} {M M' : Addr → Prop} {H H' : Hp} {C : Store}
/-- what the callers see when a frame is left -/
theorem Grow.ext (g : Grow φ M H φ' M' H') : Ext φ H H' := ⟨g.keep, g.live⟩
theorem StR.cut (s : StR G φ' M' H' C) (g : Grow φ M H φ' M' H') (sub : ∀ a ∈ φ, M a) {n : Nat} (hn : n = φ.length) : StR G φ M H' (C.take n) := by
  obtain ⟨ps, e, _⟩ := g.pre
  subst e
  subst hn
  have hl := s.len
  rw [List.length_append] at hl
  refine ⟨by rw [List.length_take]; omega, (List.nodup_append.mp s.nd).1, sub, fun a h => s.live a (g.up a h), fun n d a h1 h2 => ?_⟩
  have hn : n < φ.length := (List.getElem?_eq_some_iff.mp h2).1
  rw [List.getElem?_take_of_lt hn] at h1
  have := s.cel n d a h1 (by rw [List.getElem?_append_left hn]; exact h2)
  exact this.keeps ⟨fun a n _ z => n (g.up a z), fun _ _ _ e => e⟩ fun _ e => e
theorem Rp.cut (g : Grow φ M H φ' M' H') {v : V} {d : D} (r : Rp G M' H' v d) : Rp G M H' v d := r.keeps ⟨fun a n _ z => n (g.up a z), fun _ _ _ e => e⟩

def fin (n0 : Nat) : Fl → Store → Option (Sv × Store)
  | .rt (.dat d), C => some (.dat d, C.take n0)
  | .rt (.cel n), C => if n < n0 then some (.cel n, C.take n0) else bn1 (C[n]?) fun d => gd (nolk d = true) (some (.dat d, C.take n0))
  | .nx _, C => some (.dat .non, C.take n0)
  | _, _ => none
def finN (n0 : Nat) : Fl → Store → Option (D × Store)
  | .rt (.cel n), C => gd (n0 ≤ n) (bn1 (C[n]?) fun d => some (d, C.take n0))
  | _, _ => none
def startE (N : Nat) (svs : List Sv) : Env := svs.map some ++ List.replicate (N - svs.length) none
def runE (N np : Nat) (body : SS) : FE := fun svs C => gd (svs.length = np) (bnd (body (startE N svs) C) fun o C' => fin C.length o C')
def runN (N np : Nat) (body : SS) : FN := fun svs C => gd (svs.length = np) (bnd (body (startE N svs) C) fun o C' => finN C.length o C')
def spE (G : Gm) (np : Nat) (F : FE) : Sp := fun vs H Q _ => ∃ φ M C svs s C', StR G φ M H C ∧ SvsR G φ M H vs svs ∧ vs.length = np ∧ F svs C = some (s, C') ∧ ∀ v H', Ext φ H H' → StR G φ M H' C' → SvR G φ M H' v s → Q v H'
def spN (G : Gm) (np : Nat) (F : FN) : Sp := fun vs H Q _ => ∃ φ M C svs d C', StR G φ M H C ∧ SvsR G φ M H vs svs ∧ vs.length = np ∧ F svs C = some (d, C') ∧
  ∀ p H', H p = none → Ext φ H H' → StR G φ (fun a => M a ∨ a = p) H' C' → CelR G (fun a => M a ∨ a = p) H' p d → Q (.ref p) H'
theorem env_start {vs : List V} {svs : List Sv} {n : Nat} (r : SvsR G φ M H vs svs) : EnvR G φ M H (vs.map some ++ List.replicate (n - vs.length) none) (startE n svs) := by
  have l := r.length
  unfold startE
  refine ⟨by simp [l], fun i s h => ?_⟩
  by_cases hi : i < svs.length
  · rw [List.getElem?_append_left (by simpa using hi), List.getElem?_map] at h
    cases hs : svs[i]? with
    | none => rw [hs] at h; cases h
    | some s' =>
      rw [hs] at h
      cases h
      obtain ⟨v, hv, rv⟩ := r.get hs
      exact ⟨v, by rw [List.getElem?_append_left (by rw [List.length_map]; omega), List.getElem?_map, hv]; rfl, rv⟩
  · rw [List.getElem?_append_right (by simpa using hi)] at h
    rw [List.getElem?_replicate] at h
    split at h <;> cases h
/-- the frame's end, from the body's -/
theorem end_E {o : Fl} {C1 C' : Store} {s : Sv} {Q : VK} (hs : StR G φ M H C) (h : fin C.length o C1 = some (s, C')) (hQ : ∀ v H', Ext φ H H' → StR G φ M H' C' → SvR G φ M H' v s → Q v H') :
    EndR G φ M H o C1 { nx := fun _ H' => Q .non H', rt := Q } := by
  cases o with
  | nx ρ =>
    cases h
    exact fun φ' M' σ' H' g hE s1 => hQ .non H' g.ext (s1.cut g hs.sub hs.len.symm) .non
  | bk ρ => cases h
  | ct ρ => cases h
  | rt x =>
    cases x with
    | dat d =>
      cases h
      exact fun φ' M' v H' g s1 r => hQ v H' g.ext (s1.cut g hs.sub hs.len.symm) (Rp.cut g r)
    | cel n =>
      refine fun φ' M' v H' g s1 r => ?_
      obtain ⟨a, ha, rfl⟩ := r
      have h' : (if n < C.length then some (Sv.cel n, C1.take C.length) else bn1 (C1[n]?) fun d => gd (nolk d = true) (some (Sv.dat d, C1.take C.length))) = some (s, C') := h
      obtain ⟨ps, ep, _⟩ := id g.pre
      by_cases hn : n < C.length
      · rw [if_pos hn] at h'
        cases h'
        refine hQ _ H' g.ext (s1.cut g hs.sub hs.len.symm) ⟨a, ?_, rfl⟩
        rw [ep, List.getElem?_append_left (by rw [hs.len]; exact hn)] at ha
        exact ha
      · rw [if_neg hn] at h'
        obtain ⟨d, hd, h'⟩ := bn1_i h'
        obtain ⟨nl, h'⟩ := gd_i h'
        cases h'
        have c := s1.cel n d a hd ha
        have nM : ¬ M a := fun z => by
          -- it is ours and new
          have hnew : a ∈ ps := by
            rw [ep, List.getElem?_append_right (by rw [hs.len]; omega)] at ha
            exact List.mem_of_getElem? ha
          obtain ⟨_, e2, h2⟩ := g.pre
          rw [ep] at e2
          exact hs.live a z (h2 a (by rw [← List.append_cancel_left e2]; exact hnew))
        have r := (c.keeps (M' := M) ⟨fun a n _ z => n (g.up a z), fun _ _ _ e => e⟩ fun _ e => e).rp nM
        rw [unlk_of fun x z => by subst z; cases nl] at r
        exact hQ _ H' g.ext (s1.cut g hs.sub hs.len.symm) r
theorem end_N {o : Fl} {C1 C' : Store} {d : D} {Q : VK} (hs : StR G φ M H C) (h : finN C.length o C1 = some (d, C')) (hQ : ∀ p H', H p = none → Ext φ H H' → StR G φ (fun a => M a ∨ a = p) H' C' → CelR G (fun a => M a ∨ a = p) H' p d → Q (.ref p) H') :
    EndR G φ M H o C1 { nx := fun _ H' => Q .non H', rt := Q } := by
  cases o with
  | nx ρ => cases h
  | bk ρ => cases h
  | ct ρ => cases h
  | rt x =>
    cases x with
    | dat d => cases h
    | cel n =>
      refine fun φ' M' v H' g s1 r => ?_
      obtain ⟨a, ha, rfl⟩ := r
      obtain ⟨hn, h⟩ := gd_i h
      obtain ⟨d', hd, h⟩ := bn1_i h
      cases h
      obtain ⟨ps, ep, hps⟩ := id g.pre
      have hnew : a ∈ ps := by
        rw [ep, List.getElem?_append_right (by rw [hs.len]; exact hn)] at ha
        exact List.mem_of_getElem? ha
      have hna := hps a hnew
      have haφ : a ∈ φ' := by rw [ep]; exact List.mem_append_right _ hnew
      have up : ∀ x, (M x ∨ x = a) → M' x := fun x z => by
        rcases z with z | z
        · exact g.up x z
        · rw [z]; exact s1.sub a haφ
      have kk : Keeps M' (fun x => M x ∨ x = a) H' H' := ⟨fun x n _ z => n (up x z), fun _ _ _ e => e⟩
      refine hQ a H' hna g.ext ?_ ((s1.cel n d a hd ha).keeps kk fun _ e => e)
      have sc := s1.cut g hs.sub hs.len.symm
      refine ⟨sc.len, sc.nd, fun x h => .inl (sc.sub x h), fun x h => s1.live x (up x h), fun m e b h1 h2 => ?_⟩
      have hb : m < φ.length := (List.getElem?_eq_some_iff.mp h2).1
      rw [List.getElem?_take_of_lt (by rw [← hs.len]; exact hb)] at h1
      exact (s1.cel m e b h1 (by rw [ep, List.getElem?_append_left hb]; exact h2)).keeps kk fun _ e => e
end

/-! ### the promise of a def -/
section
variable {P : Program} {w : World} {K : PySem.W.Frag} {mg : Str → Option Value} {base : Heap} {x qual : Str} {st : Stmt} {f : Addr} {fd : FuncData} {N ps : List Str} {k : Nat} {G : Gm} {m : SS}
theorem ok_E (F : Fun K x qual st f fd) (S : FnScope N ps (defScope st))
    (hbody : ∀ (cdv : Value) (A : Around) (outer : List PySem.Env) (s : Shared) (H : Hp) (E : XK), Room k (A.deeper (PyProof.Rows.envOfC qual (defScope st) s.heap.objs.size f cdv)) →
      ∃ t, PSs (cxOf CX0 P w K mg base N qual (defScope st) f cdv A outer s H E).nox (defBody st) t ∧ SimS G t m) : FnOk P w K mg base CX0 (k + 1) f fd ps (spE G ps.length (runE N.length ps.length m)) := by
  refine F.ok S (fun vs H Q E h => ?_) (fun cdv A outer s H vs Q E hr h => ?_)
  · obtain ⟨_, _, _, _, _, _, _, _, h, _⟩ := h; exact h
  · obtain ⟨φ, M, C, svs, sv, C', hs, rv, hl, hF, hQ⟩ := h
    obtain ⟨t, hp, sim⟩ := hbody cdv A outer s H E hr
    obtain ⟨_, hF⟩ := gd_i hF
    obtain ⟨o, C1, h1, h2⟩ := bnd_i hF
    exact ⟨t, hp, sim φ M H C _ _ o C1 (env_start rv) hs h1 _ (end_E hs h2 hQ)⟩
theorem ok_N (F : Fun K x qual st f fd) (S : FnScope N ps (defScope st))
    (hbody : ∀ (cdv : Value) (A : Around) (outer : List PySem.Env) (s : Shared) (H : Hp) (E : XK), Room k (A.deeper (PyProof.Rows.envOfC qual (defScope st) s.heap.objs.size f cdv)) →
      ∃ t, PSs (cxOf CX0 P w K mg base N qual (defScope st) f cdv A outer s H E).nox (defBody st) t ∧ SimS G t m) : FnOk P w K mg base CX0 (k + 1) f fd ps (spN G ps.length (runN N.length ps.length m)) := by
  refine F.ok S (fun vs H Q E h => ?_) (fun cdv A outer s H vs Q E hr h => ?_)
  · obtain ⟨_, _, _, _, _, _, _, _, h, _⟩ := h; exact h
  · obtain ⟨φ, M, C, svs, sv, C', hs, rv, hl, hF, hQ⟩ := h
    obtain ⟨t, hp, sim⟩ := hbody cdv A outer s H E hr
    obtain ⟨_, hF⟩ := gd_i hF
    obtain ⟨o, C1, h1, h2⟩ := bnd_i hF
    exact ⟨t, hp, sim φ M H C _ _ o C1 (env_start rv) hs h1 _ (end_N hs h2 hQ)⟩
end

/-! ### calls -/
section
variable {G : Gm}
def eCall (np : Nat) (F : FE) (a : SA) : SE := fun ρ C => bnd (a ρ C) fun ss C1 => gd (ss.length = np) (F ss C1)
def nCall (np : Nat) (F : FN) (a : SA) : SN := fun ρ C => bnd (a ρ C) fun ss C1 => gd (ss.length = np) (F ss C1)
theorem sim_call {np : Nat} {F : FE} {E : XK} {ta : TA} {a : SA} (ha : SimA G ta a) : SimE G (tCall (spE G np F) [] E ta) (eCall np F a) := by
  intro φ M H C σ ρ s C' hE hs e Q hQ
  obtain ⟨ss, C1, h1, e⟩ := bnd_i e
  obtain ⟨hn, e⟩ := gd_i e
  refine ha φ M H C σ ρ ss C1 hE hs h1 _ fun vs H1 x1 s1 r1 => ?_
  refine ⟨φ, M, C1, ss, s, C', s1, by rw [List.append_nil]; exact r1, by rw [List.append_nil, r1.length, hn], e, fun v H' x2 s2 r2 => hQ v H' (x1.trans x2) s2 r2⟩
theorem sim_ncall {np : Nat} {F : FN} {E : XK} {ta : TA} {a : SA} (ha : SimA G ta a) : SimN G (tCall (spN G np F) [] E ta) (nCall np F a) := by
  intro φ M H C σ ρ s C' hE hs e Q hQ
  obtain ⟨ss, C1, h1, e⟩ := bnd_i e
  obtain ⟨hn, e⟩ := gd_i e
  refine ha φ M H C σ ρ ss C1 hE hs h1 _ fun vs H1 x1 s1 r1 => ?_
  refine ⟨φ, M, C1, ss, s, C', s1, by rw [List.append_nil]; exact r1, by rw [List.append_nil, r1.length, hn], e, fun p H' hp x2 s2 r2 => hQ p H' (x1.none_ hp) (x1.trans x2) s2 r2⟩

/-! ### arguments of which some are new things that change -/
def SimAg (G : Gm) (t : TA) (f : SA) : Prop :=
  ∀ φ M H C σ ρ ss C', EnvR G φ M H σ ρ → StR G φ M H C → f ρ C = some (ss, C') → ∀ Q : List V → Hp → Prop, (∀ vs φ' M' H', Grow φ M H φ' M' H' → StR G φ' M' H' C' → SvsR G φ' M' H' vs ss → Q vs H') → t σ H Q
theorem sim_agnil : SimAg G tNil aNil := by
  intro φ M H C σ ρ ss C' hE hs e Q hQ
  cases e
  exact hQ [] φ M H Grow.refl hs .nil
theorem sim_agcons {te : TE} {t : TA} {f : SE} {g : SA} (ha : SimE G te f) (hr : SimAg G t g) : SimAg G (tCons te t) (aCons f g) := by
  intro φ M H C σ ρ ss C' hE hs e Q hQ
  obtain ⟨v, C1, h1, e⟩ := bnd_i e
  obtain ⟨vs, C2, h2, e⟩ := bnd_i e
  cases e
  refine ha φ M H C σ ρ v C1 hE hs h1 _ fun x H1 x1 s1 r1 => ?_
  refine hr φ M H1 C1 σ ρ vs C' (hE.ext x1 hs.sub) s1 h2 _ fun ys φ' M' H2 g2 s2 r2 => ?_
  exact hQ _ φ' M' H2 (x1.grow.trans g2) s2 (.cons (r1.grow g2 s1.sub) r2)
def aNew (f : SN) (g : SA) : SA := fun ρ C => bnd (f ρ C) fun d C1 => bnd (g ρ (C1 ++ [d])) fun vs C2 => some (.cel C1.length :: vs, C2)
theorem sim_agnew {te : TE} {t : TA} {f : SN} {g : SA} (ha : SimN G te f) (hr : SimAg G t g) : SimAg G (tCons te t) (aNew f g) := by
  intro φ M H C σ ρ ss C' hE hs e Q hQ
  obtain ⟨d, C1, h1, e⟩ := bnd_i e
  obtain ⟨vs, C2, h2, e⟩ := bnd_i e
  cases e
  refine ha φ M H C σ ρ d C1 hE hs h1 _ fun p H1 hp x1 s1 c1 => ?_
  have g1 := alloc_grow (M := M) x1 hp
  have s2 := alloc_ok s1 hs.sub (fun z => hs.live p z hp) c1
  refine hr _ _ H1 _ σ ρ vs C' (hE.grow g1 hs.sub) s2 h2 _ fun ys φ' M' H2 g2 s3 r2 => ?_
  refine hQ _ φ' M' H2 (g1.trans g2) s3 (.cons ⟨p, g2.at_ ?_, rfl⟩ r2)
  have hl := s1.len
  rw [← hl]
  exact List.getElem?_concat_length
def eCallG (np : Nat) (F : FE) (a : SA) : SE := fun ρ C => bnd (a ρ C) fun ss C1 => gd (ss.length = np) (bnd (F ss C1) fun s C2 => match s with
  | .dat d => some (.dat d, C2.take C.length)
  | .cel n => gd (n < C.length) (some (.cel n, C2.take C.length)))
theorem sim_callG {np : Nat} {F : FE} {E : XK} {ta : TA} {a : SA} (ha : SimAg G ta a) : SimE G (tCall (spE G np F) [] E ta) (eCallG np F a) := by
  intro φ M H C σ ρ s C' hE hs e Q hQ
  obtain ⟨ss, C1, h1, e⟩ := bnd_i e
  obtain ⟨hn, e⟩ := gd_i e
  obtain ⟨s', C2, h2, e⟩ := bnd_i e
  refine ha φ M H C σ ρ ss C1 hE hs h1 _ fun vs φ' M' H1 g1 s1 r1 => ?_
  refine ⟨φ', M', C1, ss, s', C2, s1, by rw [List.append_nil]; exact r1, by rw [List.append_nil, r1.length, hn], h2, fun v H' x2 s2 r2 => ?_⟩
  have g2 := g1.trans x2.grow
  have sc := s2.cut g2 hs.sub hs.len.symm
  cases s' with
  | dat d => cases e; exact hQ v H' g2.ext sc (Rp.cut g2 r2)
  | cel n =>
    obtain ⟨hn, e⟩ := gd_i e
    cases e
    obtain ⟨a, ha, rfl⟩ := r2
    obtain ⟨ps, ep, _⟩ := g2.pre
    refine hQ _ H' g2.ext sc ⟨a, ?_, rfl⟩
    rw [ep, List.getElem?_append_left (by rw [hs.len]; exact hn)] at ha
    exact ha

/-! ### several names at once -/
def setAll : List Nat → List Sv → Env → Env
  | i :: is, v :: vs, ρ => setAll is vs (ρ.set i (some v))
  | _, _, ρ => ρ
def sMul (is : List Nat) (a : SA) : SS := fun ρ C => bnd (a ρ C) fun ss C1 => gd (ss.length = is.length) (some (.nx (setAll is ss ρ), C1))
def gNs : List Nat → TGs
  | [] => gNil
  | i :: is => gCons (gName i) (gNs is)
theorem gns_ok {φ : List Addr} {M : Addr → Prop} {H : Hp} {Q : L2.St → Hp → Prop} : ∀ (is : List Nat) {vs : List V} {ss : List Sv} {σ : L2.St} {ρ : Env}, SvsR G φ M H vs ss → ss.length = is.length → EnvR G φ M H σ ρ → (∀ σ', EnvR G φ M H σ' (setAll is ss ρ) → Q σ' H) → gNs is vs σ H Q
  | [], _, _, σ, ρ, .nil, _, hE, hQ => ⟨rfl, hQ σ hE⟩
  | [], _, _, _, _, .cons _ _, hl, _, _ => by simp at hl
  | i :: is, _, _, σ, ρ, .nil, hl, _, _ => by simp at hl
  | i :: is, _, _, σ, ρ, .cons r t, hl, hE, hQ => ⟨_, _, rfl, gns_ok is t (by simpa using hl) (hE.set i r) hQ⟩
theorem sim_smul {is : List Nat} {n : Nat} {ta : TA} {a : SA} (ha : SimAg G ta a) (hn : n = is.length) (hz : is.length ≤ 1000) : SimS G (tAsg (tTup ta) (gSeq G.K n (gNs is))) (sMul is a) := by
  subst hn
  intro φ M H C σ ρ o C' hE hs e Dd hD
  obtain ⟨ss, C1, h1, e⟩ := bnd_i e
  obtain ⟨hl, e⟩ := gd_i e
  cases e
  refine ha φ M H C σ ρ ss C' hE hs h1 _ fun vs φ' M' H1 g1 s1 r1 => ?_
  have ll := r1.length
  refine ⟨small_line (by omega), fun p hp => ?_⟩
  have x2 : Ext φ' H1 (upd H1 p (.tup vs)) := Ext.laid hp
  have g2 := g1.trans x2.grow
  refine ⟨p, vs, rfl, .inl (.inl (.inl upd_same)), by omega, ?_⟩
  exact gns_ok is (r1.grow x2.grow s1.sub) hl (hE.grow g2 hs.sub) fun σ' hE' => hD _ _ σ' _ g2 hE' (s1.laid hp)
theorem sim_spar {i j : Nat} {ta : TA} {a : SA} (ha : SimAg G ta a) : SimS G (tPar i j ta) (sMul [i, j] a) := by
  intro φ M H C σ ρ o C' hE hs e Dd hD
  obtain ⟨ss, C1, h1, e⟩ := bnd_i e
  obtain ⟨hl, e⟩ := gd_i e
  cases e
  refine ha φ M H C σ ρ ss C' hE hs h1 _ fun vs φ' M' H1 g1 s1 r1 => ?_
  cases r1 with
  | nil => simp at hl
  | cons r t =>
    cases t with
    | nil => simp at hl
    | cons r2 t =>
      cases t with
      | cons _ _ => simp at hl
      | nil =>
        exact ⟨_, _, rfl, hD φ' M' _ H1 g1 (((hE.grow g1 hs.sub).set i r).set j r2) s1⟩
end
end DX

/-! DGen: what the written-out defs want. -/
namespace DX
open PySem PySem.Spec L2
/-- a def that is called by its name -/
structure Cl (P : Program) (w : World) (K : PySem.W.Frag) (mg : Str → Option Value) (base : Heap) (k : Nat) (x : Str) (ps : List Str) (sp : Sp) : Prop where
  ex : ∃ (f : Addr) (fd : FuncData), FnOk P w K mg base CX0 k f fd ps sp ∧ mg x = some (.ref f) ∧ PySem.W.keepIn K (.ref f) = true ∧ Binds K fd ps []
section
variable {X : Cx} {k j : Nat} {x : Str} {ps : List Str} {sp : Sp} {p pos : Pos} {e : Expr} {es : List Expr} {t : TA}
theorem pe_cl (c : Cl X.prog X.w X.K X.mg X.base k x ps sp) (hr : Room j X.A) (hk : k ≤ j) (hg : Gl X x) (ha : PA X (e :: es) t)
    (hdb : (x == ("__debug__" : Str)) = false := by decide) (he : starEach (e :: es) X.env = (false, eval e X.env) :: starEach es X.env := by rfl) (hpl : (backTo pos (starEach es X.env)).any (·.1) = false := by rfl) :
    PE X (.Call (.Name x p) (e :: es) [] pos) (tCall sp [] E0 t) := by
  obtain ⟨f, fd, F, hm, kp, b⟩ := c.ex
  exact pe_call F (hr.mono hk) hg hm kp b .nil pass0 ha hdb he hpl
end
theorem hu1 {A : Around} {k : Nat} (hr : Room k A) : A.units + 1 < cLine := by have := hr.un; omega
theorem hu64 {A : Around} {k : Nat} (hr : Room k A) : A.units + 64 < cLine := by have := hr.un; omega
theorem hu65 {A : Around} {k : Nat} (hr : Room k A) : A.units + 65 < cLine := by have := hr.un; omega
end DX
namespace DX
open PySem PySem.Spec L2
section
variable {P : Program} {w : World} {K : PySem.W.Frag} {mg : Str → Option Value} {base : Heap} {x qual : Str} {st : Stmt} {f : Addr} {fd : FuncData} {N ps : List Str} {k : Nat} {G : Gm}
/-- a promise that nobody can ask -/
theorem ok_no {n : Nat} (F : Fun K x qual st f fd) (S : FnScope N ps (defScope st)) : FnOk P w K mg base CX0 (k + 1) f fd ps (spE G n fun _ _ => none) := by
  refine F.ok S (fun vs H Q E h => ?_) (fun cdv A outer s H vs Q E hr h => ?_)
  · obtain ⟨_, _, _, _, _, _, _, _, _, h, _⟩ := h; cases h
  · obtain ⟨_, _, _, _, _, _, _, _, _, h, _⟩ := h; cases h
end
end DX
namespace DX
open PySem PySem.Spec L2
section
variable {P : Program} {w : World} {K : PySem.W.Frag} {mg : Str → Option Value} {base : Heap} {x qual : Str} {st : Stmt} {f : Addr} {fd : FuncData} {N ps : List Str} {k n q : Nat} {G : Gm} {m : SS}
theorem ok_E' {F' : FE} (F : Fun K x qual st f fd) (S : FnScope N ps (defScope st)) (hM : F' = runE N.length ps.length m) (hq : q = ps.length)
    (hbody : ∀ (cdv : Value) (A : Around) (outer : List PySem.Env) (s : Shared) (H : Hp) (E : XK), Room k (A.deeper (PyProof.Rows.envOfC qual (defScope st) s.heap.objs.size f cdv)) →
      ∃ t, PSs (cxOf CX0 P w K mg base N qual (defScope st) f cdv A outer s H E).nox (defBody st) t ∧ SimS G t m) : FnOk P w K mg base CX0 (k + 1) f fd ps (spE G q F') := by
  subst hM
  subst hq
  exact ok_E F S hbody
theorem ok_N' {F' : FN} (F : Fun K x qual st f fd) (S : FnScope N ps (defScope st)) (hM : F' = runN N.length ps.length m) (hq : q = ps.length)
    (hbody : ∀ (cdv : Value) (A : Around) (outer : List PySem.Env) (s : Shared) (H : Hp) (E : XK), Room k (A.deeper (PyProof.Rows.envOfC qual (defScope st) s.heap.objs.size f cdv)) →
      ∃ t, PSs (cxOf CX0 P w K mg base N qual (defScope st) f cdv A outer s H E).nox (defBody st) t ∧ SimS G t m) : FnOk P w K mg base CX0 (k + 1) f fd ps (spN G q F') := by
  subst hM
  subst hq
  exact ok_N F S hbody
end
end DX
namespace DX
open PySem PySem.Spec L2
theorem bt_all : bootBuiltins "all" = some (Value.builtin "all") := by decide +kernel
theorem bt_any : bootBuiltins "any" = some (Value.builtin "any") := by decide +kernel
theorem bt_abs : bootBuiltins "abs" = some (Value.builtin "abs") := by decide +kernel
theorem bt_len : bootBuiltins "len" = some (Value.builtin "len") := by decide +kernel
theorem bt_isinstance : bootBuiltins "isinstance" = some (Value.builtin "isinstance") := by decide +kernel
theorem bt_sorted : bootBuiltins "sorted" = some (Value.builtin "sorted") := by decide +kernel
theorem bt_sum : bootBuiltins "sum" = some (Value.builtin "sum") := by decide +kernel
theorem bt_min : bootBuiltins "min" = some (Value.builtin "min") := by decide +kernel
theorem bt_max : bootBuiltins "max" = some (Value.builtin "max") := by decide +kernel
theorem bt_repr : bootBuiltins "repr" = some (Value.builtin "repr") := by decide +kernel
theorem bt_int : bootBuiltins "int" = some (Value.type "int") := by decide +kernel
theorem bt_list : bootBuiltins "list" = some (Value.type "list") := by decide +kernel
theorem bt_tuple : bootBuiltins "tuple" = some (Value.type "tuple") := by decide +kernel
theorem bt_set : bootBuiltins "set" = some (Value.type "set") := by decide +kernel
theorem bt_dict : bootBuiltins "dict" = some (Value.type "dict") := by decide +kernel
theorem bt_str : bootBuiltins "str" = some (Value.type "str") := by decide +kernel
theorem bt_bool : bootBuiltins "bool" = some (Value.type "bool") := by decide +kernel
end DX

/-! DGk: the rules, with the store of fixed objects named (within a comprehension's frame it must not be read off the frame). -/
namespace DX
open PySem PySem.Spec L2
section
variable {X : Cx} (K : PySem.W.Frag) (hK : X.K = K)
include hK
theorem k_add : OpR X (binaryOp .Add) (rAdd0 K) := by subst hK; exact op_add0
theorem k_eq (hu : X.A.units + 64 < cLine) : OpR X (compareOp .Eq) (rEqD K) := by subst hK; exact op_eqD hu
theorem k_ne (hu : X.A.units + 64 < cLine) : OpR X (compareOp .NotEq) (rNeD K) := by subst hK; exact op_neD hu
theorem k_in (hu : X.A.units + 65 < cLine) : OpR X (compareOp .In) (rIn0 K) := by subst hK; exact op_in0 hu
theorem k_notIn (hu : X.A.units + 65 < cLine) : OpR X (compareOp .NotIn) (rNotIn0 K) := by subst hK; exact op_notIn0 hu
theorem k_ix (hu : X.A.units + 1 < cLine) : IxR X (rIx0 K) := by subst hK; exact ix_0 hu
theorem k_sl : SlR X (rSl0 K) := by subst hK; exact sl_0
theorem k_len : CallR X (.builtin "len") (rLen0 K) := by subst hK; exact call_len0
theorem k_list : CallR X (.type "list") (rListOf K) := by subst hK; exact call_list_of
theorem k_tuple : CallR X (.type "tuple") (rTupOf K) := by subst hK; exact call_tuple_of
theorem k_all (hc : X.calm = true) : CallR X (.builtin "all") (rAll K) := by subst hK; exact cr_all hc
theorem k_any (hc : X.calm = true) : CallR X (.builtin "any") (rAny K) := by subst hK; exact cr_any hc
theorem k_sum (hc : X.calm = true) : CallR X (.builtin "sum") (rSum K) := by subst hK; exact cr_sum hc
theorem k_isi : CallR X (.builtin "isinstance") (rIsi K) := by subst hK; exact call_isi
theorem k_isiT : CallR X (.builtin "isinstance") (rIsiT K) := by subst hK; exact call_isiT
theorem k_seq {tg l : Expr} {tl : TE} (h : PE X l tl) : PI X tg l (iSeq K tl) := by subst hK; exact pi_seq h
theorem k_enum {e : Expr} {elts : List Expr} {kk : Nat} {tpos p pos : Pos} {ta : TA} (hg : Gl X "enumerate") (hm : X.mg "enumerate" = none) (ha : PA X [e] ta) (hs : starEach [e] X.env = [(false, eval e X.env)] := by rfl) :
    PI X (.Tuple elts kk tpos) (.Call (.Name "enumerate" p) [e] [] pos) (iEnum K ta) := by subst hK; exact pi_enum hg hm ha hs
theorem k_zip {e e2 : Expr} {elts : List Expr} {kk : Nat} {tpos p pos : Pos} {ta : TA} (hg : Gl X "zip") (hm : X.mg "zip" = none) (ha : PA X [e, e2] ta) (hs : starEach [e, e2] X.env = (false, eval e X.env) :: starEach [e2] X.env := by rfl) (hp : (backTo pos (starEach [e2] X.env)).any (·.1) = false := by rfl) :
    PI X (.Tuple elts kk tpos) (.Call (.Name "zip" p) [e, e2] [] pos) (RZ.iZipA K ta) := by subst hK; exact RZ.pi_zipA hg hm ha hs hp
theorem k_orT {a b : Expr} {rest : List Expr} {pos : Pos} {ta tb : TE} (ha : PE X a ta) (hb : PE X (.BoolOp .Or (b :: rest) pos) tb) : PE X (.BoolOp .Or (a :: b :: rest) pos) (tOrT K ta tb) := by subst hK; exact pe_orT ha hb
theorem k_truth {a : Expr} {ta : TE} (ha : PE X a ta) (he : ∀ whole, PySem.isTrue a X.env whole = (do let v ← whole; standAt a.pos; holding [v] (truthy v))) :
    PT X a (fun σ H Q => ta σ H fun x H' => ∃ k, TruV K x H' k ∧ Q k H') := by subst hK; exact pt_truth ha he
theorem k_gseq {es : List Expr} {k : Nat} {t : TGs} {n : Nat} {pos : Pos} (hc : X.calm = true) (h : PGs X es t) (hn : (assignEach es X.env).length = n := by rfl) (hst : (assignEach es X.env).findIdx? (·.1) = none := by rfl) : PG X (.Tuple es k pos) (gSeq K n t) := by subst hK; exact pg_seq hc h hn hst
end
end DX

/-! DSort: sorted(..) of texts. -/
namespace DX
open PySem PySem.Spec L2 PyProof.Rows
/-- the order of texts -/
def leS (a b : Str) : Bool := !ltCps b.cps.toList a.cps.toList
theorem leS_iff {a b : Str} : leS a b = true ↔ ¬ b.cps.toList < a.cps.toList := by
  unfold leS
  rw [ltCps_eq]
  simp
theorem leS_total (a b : Str) : leS a b = true ∨ leS b a = true := by
  rw [leS_iff, leS_iff]
  by_cases h : b.cps.toList < a.cps.toList
  · exact .inr (List.lt_asymm h)
  · exact .inl h
theorem leS_trans {a b c : Str} (h1 : leS a b = true) (h2 : leS b c = true) : leS a c = true := by
  rw [leS_iff] at *
  have h1 := List.not_lt.mp h1
  have h2 := List.not_lt.mp h2
  exact List.not_lt.mpr (List.le_trans h1 h2)
theorem leS_anti {a b : Str} (h1 : leS a b = true) (h2 : leS b a = true) : a = b := by
  rw [leS_iff] at *
  have e := List.le_antisymm (List.not_lt.mp h1) (List.not_lt.mp h2)
  obtain ⟨x⟩ := a
  obtain ⟨y⟩ := b
  congr 1
  exact Array.toList_inj.mp e
theorem leS_refl (a : Str) : leS a a = true := by
  rcases leS_total a a with h | h <;> exact h
theorem risingS_pw : ∀ {p : Str} {l : List Str}, risingS p l = true → (p :: l).Pairwise (fun a b => leS a b = true)
  | p, [], _ => List.pairwise_singleton _ _
  | p, x :: r, h => by
    unfold risingS at h
    rw [Bool.and_eq_true] at h
    have ih := risingS_pw h.2
    refine List.pairwise_cons.mpr ⟨fun y hy => ?_, ih⟩
    have hx : leS p x = true := h.1
    rcases List.mem_cons.mp hy with z | z
    · rw [z]; exact hx
    · exact leS_trans hx ((List.pairwise_cons.mp ih).1 y z)
theorem sortedS_pw : ∀ {l : List Str}, sortedS l = true → l.Pairwise (fun a b => leS a b = true)
  | [], _ => .nil
  | x :: r, h => risingS_pw h
def sortStr (xs : List Str) : List Str := xs.mergeSort leS
theorem sortStr_perm (xs : List Str) : (sortStr xs).Perm xs := List.mergeSort_perm xs leS
theorem sortStr_pw (xs : List Str) : (sortStr xs).Pairwise (fun a b => leS a b = true) :=
  List.pairwise_mergeSort (le := leS) (fun a b c => leS_trans) (fun a b => by rcases leS_total a b with h | h <;> simp [h]) xs
theorem sort_one {xs ys : List Str} (p : ys.Perm xs) (h : ys.Pairwise (fun a b => leS a b = true)) : ys = sortStr xs :=
  (p.trans (sortStr_perm xs).symm).eq_of_pairwise (fun _ _ _ _ => leS_anti) h (sortStr_pw xs)
/-- all are texts -/
def txts : List D → Option (List Str)
  | [] => some []
  | .str x :: ds => (txts ds).map (x :: ·)
  | _ :: _ => none
theorem txts_some : ∀ {ds : List D} {xs : List Str}, txts ds = some xs → ds = xs.map D.str
  | [], xs, h => by cases h; rfl
  | .str x :: ds, xs, h => by
    unfold txts at h
    cases hs : txts ds with
    | none => rw [hs] at h; cases h
    | some ys => rw [hs] at h; cases h; rw [txts_some hs]; rfl
  | .non :: _, _, h | .bl _ :: _, _, h | .int _ :: _, _, h | .tup _ :: _, _, h | .lst _ :: _, _, h | .dK _ :: _, _, h | .dT _ :: _, _, h | .ins _ _ :: _, _, h | .scr _ :: _, _, h | .kt _ :: _, _, h | .lk _ :: _, _, h => by cases h
theorem txts_map (xs : List Str) : txts (xs.map D.str) = some xs := by
  induction xs with
  | nil => rfl
  | cons x r ih => show (txts (r.map D.str)).map (x :: ·) = _; rw [ih]; rfl
def dSorted : List D → Option D
  | [.lst ds] => bn1 (txts ds) fun xs => gd (xs.length < 64) (some (.lst ((sortStr xs).map D.str)))
  | _ => none
section
variable {G : Gm}
theorem Rp.txts {M : Addr → Prop} {H : Hp} : ∀ {vs : List V} {xs : List Str}, RpL G M H vs (xs.map D.str) → vs = xs.map V.str
  | _, [], .nil => rfl
  | _, _ :: _, .cons r t => by cases r; rw [Rp.txts t]; rfl
theorem rpL_txts {M : Addr → Prop} {H : Hp} : ∀ (xs : List Str), RpL G M H (xs.map V.str) (xs.map D.str)
  | [] => .nil
  | x :: r => .cons (.str x) (rpL_txts r)
theorem sim_nsorted {ta : TA} {a : SA} (ha : SimA G ta a) : SimN G (tCB (rSortedS G.K) ta) (nB dSorted a) := by
  intro φ M H C σ ρ d C' hE hs e Q hQ
  obtain ⟨ss, C1, h1, e⟩ := bnd_i e
  obtain ⟨ds, h2, e⟩ := bn1_i e
  obtain ⟨z, h3, e⟩ := bn1_i e
  cases e
  refine ha φ M H C σ ρ ss C' hE hs h1 _ fun xs H1 x1 s1 r1 => ?_
  cases r1 with
  | nil => simp [sees] at h2; subst h2; cases h3
  | cons r t =>
    unfold sees at h2
    obtain ⟨d1, h4, h2⟩ := bn1_i h2
    obtain ⟨ds1, h5, h2⟩ := bn1_i h2
    cases h2
    cases t with
    | cons r' t' =>
      unfold sees at h5
      obtain ⟨d2, _, h5⟩ := bn1_i h5
      obtain ⟨d3, _, h5⟩ := bn1_i h5
      cases h5
      cases d1 <;> cases h3
    | nil =>
      cases h5
      have rp := s1.see_rp r h4
      cases d1 with
      | lst xs0 =>
        obtain ⟨ys, h6, h3⟩ := bn1_i h3
        obtain ⟨h7, h3⟩ := gd_i h3
        cases h3
        have e2 := txts_some h6
        subst e2
        cases rp with
        | lst nM rd hl rl =>
          have e3 := Rp.txts rl
          subst e3
          refine ⟨_, ys, rfl, .inl rd, h7, fun zs p pz sz hp => ?_⟩
          have e4 := sort_one pz (sortedS_pw sz)
          subst e4
          have hl2 : ((sortStr ys).map V.str).length ≤ sizeLine := by
            rw [List.length_map, (sortStr_perm ys).length_eq]
            exact small_line (by omega)
          exact hQ p _ (x1.none_ hp) (x1.trans (Ext.laid hp)) (s1.laidM hp) (CelR.newL s1 hp hl2 (rpL_txts _))
      | _ => cases h3
theorem k_sorted {X : Cx} (K : PySem.W.Frag) (hK : X.K = K) : CallR X (.builtin "sorted") (rSortedS K) := by subst hK; exact cr_sortedS
end
end DX

/-! DDict: dicts that are walked, written, joined. -/
namespace DX
open PySem PySem.Spec L2
/-! ### locks -/
def dic : HO → Prop
  | .dK _ => True
  | .dT _ => True
  | _ => False
/-- the same heap, but that the dict at d is locked, or is no more -/
structure Sw (d : Addr) (H H' : Hp) : Prop where
  off : ∀ a, a ≠ d → H' a = H a
  at_ : ∃ od u, dic u ∧ ((H d = some u ∧ H' d = some (.frz od u)) ∨ (H d = some (.frz od u) ∧ H' d = some u))
section
variable {G : Gm} {φ : List Addr} {M : Addr → Prop} {H H' H2 : Hp} {d : Addr} {C : Store}
theorem Sw.rd (w : Sw d H H') {a : Addr} {v : HO} (hv : ∀ o u, v ≠ .frz o u) (h : Rd H a v) : Rd H' a v := by
  by_cases e : a = d
  · subst e
    obtain ⟨od, u, du, ⟨h1, h2⟩ | ⟨h1, h2⟩⟩ := w.at_
    · rcases h with h | ⟨o, h⟩
      · rw [h1] at h; cases h; exact .inr ⟨od, h2⟩
      · rw [h1] at h; cases h; exact du.elim
    · rcases h with h | ⟨o, h⟩
      · rw [h1] at h; cases h; exact absurd rfl (hv _ _)
      · rw [h1] at h; cases h; exact .inl h2
  · rcases h with h | ⟨o, h⟩
    · exact .inl ((w.off a e).trans h)
    · exact .inr ⟨o, (w.off a e).trans h⟩
theorem Sw.keep (w : Sw d H H') {a : Addr} {v : HO} (h : H a = some v) (n : ¬ dic v) (n2 : ∀ o u, v ≠ .frz o u) : H' a = some v := by
  by_cases e : a = d
  · subst e
    obtain ⟨od, u, du, ⟨h1, h2⟩ | ⟨h1, h2⟩⟩ := w.at_
    · rw [h1] at h; cases h; exact absurd du n
    · rw [h1] at h; cases h; exact absurd rfl (n2 _ _)
  · exact (w.off a e).trans h
theorem Sw.live (w : Sw d H H') {a : Addr} (h : H a ≠ none) : H' a ≠ none := by
  by_cases e : a = d
  · subst e
    obtain ⟨od, u, du, ⟨h1, h2⟩ | ⟨h1, h2⟩⟩ := w.at_ <;> rw [h2] <;> simp
  · rw [w.off a e]; exact h
theorem Sw.none_ (w : Sw d H H') {a : Addr} (h : H' a = none) : H a = none := Classical.byContradiction fun z => w.live z h
mutual
theorem Rp.sw (w : Sw d H H') : ∀ {v : V} {x : D}, Rp G M H v x → Rp G M H' v x
  | _, _, .non => .non
  | _, _, .bl b => .bl b
  | _, _, .int i => .int i
  | _, _, .str x => .str x
  | _, _, .tup h l r => .tup ⟨h.1, w.keep h.2 (fun z => z) (by intro _ _ z; cases z)⟩ l (RpL.sw w r)
  | _, _, .lst n h l r => .lst n (w.rd (by intro _ _ z; cases z) h) l (RpL.sw w r)
  | _, _, .kt h r => .kt h (RpL.sw w r)
  | _, _, .scr (.inl h) l => .scr (.inl ⟨h.1, w.rd (by intro _ _ z; cases z) h.2⟩) l
  | _, _, .scr (.inr h) l => .scr (.inr h) l
  | _, _, .dK n h l e r => .dK n (w.rd (by intro _ _ z; cases z) h) l e (RpL.sw w r)
  | _, _, .dT n h l e r => .dT n (w.rd (by intro _ _ z; cases z) h) l e (RpL.sw w r)
  | _, _, .ins n n' h h' e r => .ins n n' (w.keep h (fun z => z) (by intro _ _ z; cases z)) (w.keep h' (fun z => z) (by intro _ _ z; cases z)) e (RpL.sw w r)
theorem RpL.sw (w : Sw d H H') : ∀ {vs : List V} {ds : List D}, RpL G M H vs ds → RpL G M H' vs ds
  | _, _, .nil => .nil
  | _, _, .cons r t => .cons (Rp.sw w r) (RpL.sw w t)
end
theorem CelR.sw (w : Sw d H H') {a : Addr} {c : D} (n : a ≠ d) (h : CelR G M H a c) : CelR G M H' a c := by
  have ha := w.off a n
  cases c with
  | lst ds => obtain ⟨vs, h1, h2, h3⟩ := h; exact ⟨vs, ha.trans h1, h2, h3.sw w⟩
  | dK ds => obtain ⟨vs, h1, h2, h3, h4⟩ := h; exact ⟨vs, ha.trans h1, h2, h3, h4.sw w⟩
  | dT ds => obtain ⟨vs, h1, h2, h3, h4⟩ := h; exact ⟨vs, ha.trans h1, h2, h3, h4.sw w⟩
  | ins c ds => obtain ⟨dx, fs, m, h1, h2, h3, h4⟩ := h; exact ⟨dx, fs, m, ha.trans h1, w.keep h2 (fun z => z) (by intro _ _ z; cases z), h3, h4.sw w⟩
  | lk c =>
    rcases h.lk_inv with ⟨ds, rfl⟩ | ⟨ds, rfl⟩
    · obtain ⟨od, vs, h1, h2, h3, h4⟩ := h; exact ⟨od, vs, ha.trans h1, h2, h3, h4.sw w⟩
    · obtain ⟨od, vs, h1, h2, h3, h4⟩ := h; exact ⟨od, vs, ha.trans h1, h2, h3, h4.sw w⟩
  | non => exact h.elim
  | bl b => exact h.elim
  | int b => exact h.elim
  | str b => exact h.elim
  | tup b => exact h.elim
  | scr b => exact h.elim
  | kt b => exact h.elim
theorem StR.sw (w : Sw d H H') (n : d ∉ φ) (s : StR G φ M H C) : StR G φ M H' C :=
  ⟨s.len, s.nd, s.sub, fun a h => w.live (s.live a h), fun m c a h1 h2 => (s.cel m c a h1 h2).sw w fun z => n (by rw [← z]; exact List.mem_of_getElem? h2)⟩
theorem SvR.sw (w : Sw d H H') {v : V} {s : Sv} (h : SvR G φ M H v s) : SvR G φ M H' v s := by
  cases s with
  | dat d => exact Rp.sw w h
  | cel n => exact h
theorem EnvR.sw (w : Sw d H H') {σ : L2.St} {ρ : Env} (h : EnvR G φ M H σ ρ) : EnvR G φ M H' σ ρ := ⟨h.len, fun i s e => let ⟨v, h1, h2⟩ := h.at_ i s e; ⟨v, h1, h2.sw w⟩⟩
/-- locked, walked, unlocked -/
theorem sw_lock {u : HO} {od : Obj} (hd : H d = some u) (du : dic u) : Sw d H (upd H d (.frz od u)) := ⟨fun a n => upd_ne n, od, u, du, .inl ⟨hd, upd_same⟩⟩
theorem sw_unlock {u : HO} {od : Obj} (hd : H d = some (.frz od u)) (du : dic u) : Sw d H (upd H d u) := ⟨fun a n => upd_ne n, od, u, du, .inr ⟨hd, upd_same⟩⟩
theorem ext_lock {u : HO} {od : Obj} (hd : H d = some u) (x : Ext φ (upd H d (.frz od u)) H2) : Ext φ H (upd H2 d u) := by
  refine ⟨fun a v e n => ?_, fun a h => ?_⟩
  · by_cases z : a = d
    · subst z; rw [hd] at e; cases e; exact upd_same
    · rw [upd_ne z]; exact x.keep a v (by rw [upd_ne z]; exact e) n
  · by_cases z : a = d
    · subst z; rw [upd_same]; simp
    · rw [upd_ne z]; exact x.live a (by rw [upd_ne z]; exact h)
theorem grow_lock {φ' : List Addr} {M' : Addr → Prop} {u : HO} {od : Obj} (hd : H d = some u) (x : Grow φ M (upd H d (.frz od u)) φ' M' H2) : Grow φ M H φ' M' (upd H2 d u) := by
  have y := ext_lock hd x.ext
  refine ⟨?_, y.keep, y.live, x.up, fun a h => ?_⟩
  · obtain ⟨ps, e, hp⟩ := x.pre
    refine ⟨ps, e, fun p hp' => ?_⟩
    have q := hp p hp'
    by_cases z : p = d
    · subst z; rw [upd_same] at q; cases q
    · rw [upd_ne z] at q; exact q
  · rcases x.new a h with h | h
    · exact .inl h
    · by_cases z : a = d
      · subst z; rw [upd_same] at h; cases h
      · rw [upd_ne z] at h; exact .inr h

/-! ### what reads alone -/
def SimP (G : Gm) (te : TE) (f : SE) : Prop := ∀ φ M H C σ ρ x C', EnvR G φ M H σ ρ → StR G φ M H C → f ρ C = some (.dat x, C') → C' = C ∧ ∃ v, Rp G M H v x ∧ (∀ Q : VK, Q v H → te σ H Q) ∧ ∀ d H', Sw d H H' → ∀ Q : VK, Q v H' → te σ H' Q
theorem simp_var {i : Nat} : SimP G (tVar i) (eVar i) := by
  intro φ M H C σ ρ x C' he hs e
  obtain ⟨v, h1, e⟩ := bn1_i e
  cases e
  have h2 : ρ[i]? = some (some (.dat x)) := by
    cases z : ρ[i]? with
    | none => rw [z] at h1; cases h1
    | some o => rw [z] at h1; cases o with
      | none => cases h1
      | some x => cases h1; rfl
  obtain ⟨w, h3, h4⟩ := he.at_ i _ h2
  exact ⟨rfl, w, h4, fun Q q => ⟨w, h3, q⟩, fun _ _ _ Q q => ⟨w, h3, q⟩⟩
/-- d[k] of a dict -/
def eIxK (f g : SE) : SE := fun ρ C => bnd (f ρ C) fun v C1 => bnd (g ρ C1) fun w C2 => match v with
  | .dat (.dK kvs) => match w with
    | .dat k => bn1 (dKey k) fun k => bn1 (dGet kvs k) fun z => some (.dat z, C2)
    | _ => none
  | _ => none
theorem keyV {M : Addr → Prop} {H : Hp} {v : V} {e : D} {k : Key} (r : Rp G M H v e) (h : dKey e = some k) : v = kV k := by
  cases e with
  | int i => cases h; cases r; rfl
  | str x => cases h; cases r; rfl
  | _ => cases h
theorem get_rel {M : Addr → Prop} {H : Hp} {κ : Type} [DecidableEq κ] {k : κ} : ∀ {kvs : List (κ × V)} {ds : List (κ × D)} {z : D}, kvs.map (·.1) = ds.map (·.1) → RpL G M H (kvs.map (·.2)) (ds.map (·.2)) → dGet ds k = some z → ∃ v, valV kvs k = some v ∧ Rp G M H v z
  | [], [], _, _, _, h => by cases h
  | [], _ :: _, _, e, _, _ => by simp at e
  | _ :: _, [], _, e, _, _ => by simp at e
  | a :: kvs, b :: ds, z, e, r, h => by
    simp only [List.map_cons, List.cons.injEq] at e
    cases r with
    | cons r1 r2 =>
      unfold dGet at h
      unfold valV
      rw [List.find?_cons] at h ⊢
      by_cases q : b.1 = k
      · have q' : a.1 = k := e.1.trans q
        rw [decide_eq_true q] at h
        rw [decide_eq_true q']
        cases h
        exact ⟨_, rfl, r1⟩
      · have q' : ¬ a.1 = k := fun w => q (e.1.symm.trans w)
        rw [decide_eq_false q] at h
        rw [decide_eq_false q']
        exact get_rel e.2 r2 h
end
end DX

/-! DDict2: walks over dicts, d.update(e), {k: v}, what a block leaves behind. -/
namespace DX
open PySem PySem.Spec L2
section
variable {G : Gm}
theorem simp_ixk {ta tb : TE} {f g : SE} (ha : SimP G ta f) (hb : SimP G tb g) : SimP G (tOp (rIx0 G.K) ta tb) (eIxK f g) := by
  intro φ M H C σ ρ x C' he hs e
  obtain ⟨v, C1, h1, e⟩ := bnd_i e
  obtain ⟨w, C2, h2, e⟩ := bnd_i e
  cases v with
  | cel n => cases e
  | dat dv =>
    cases dv with
    | dK kvs =>
      cases w with
      | cel n => cases e
      | dat dk =>
        obtain ⟨k, h3, e⟩ := bn1_i e
        obtain ⟨z, h4, e⟩ := bn1_i e
        cases e
        obtain ⟨rfl, a, ra, qa, qa'⟩ := ha φ M H C σ ρ _ _ he hs h1
        obtain ⟨rfl, b, rb, qb, qb'⟩ := hb φ M H _ σ ρ _ _ he hs h2
        cases ra with
        | dK n rd l ek rl =>
          obtain ⟨y, h5, h6⟩ := get_rel ek rl h4
          have eb := keyV rb h3
          subst eb
          refine ⟨rfl, y, h6, fun Q q => qa _ (qb _ (.inr ⟨_, y, rfl, .inl ⟨_, k, rd, rfl, h5.symm⟩, q⟩)), fun d H' sw Q q => qa' d H' sw _ (qb' d H' sw _ (.inr ⟨_, y, rfl, .inl ⟨_, k, sw.rd (by intro _ _ z; cases z) rd, rfl, h5.symm⟩, q⟩))⟩
    | _ => cases e

/-! ### for k in d -/
def tLockA (t : TE) : TE := fun σ H Q => tLockE t σ H Q ∨ t σ H Q
def tLockB (t : TS) : TS := fun D σ H => tLock t D σ H ∨ t D σ H
theorem pe_lockA {X : Cx} {e : Expr} {t : TE} (h : PE X e t) : PE X e (tLockA t) := ⟨fun pins s σ H Q I q => by
  rcases q with q | q
  · exact (pe_lock h).run pins s σ H Q I q
  · exact h.run pins s σ H Q I q⟩
theorem ps_lockB {X : Cx} {st : Stmt} {t : TS} (h : PS X st t) : PS X st (tLockB t) := ⟨fun pins s σ H D I q => by
  rcases q with q | q
  · exact (ps_lock h).run pins s σ H D I q
  · exact h.run pins s σ H D I q⟩
/-- the keys of a dict that is data -/
def iKy (f : SE) : SI := fun ρ C => bnd (f ρ C) fun v C1 => match v with
  | .dat (.dK kvs) => some (⟨kvs.map fun kv => keyD kv.1, []⟩, C1)
  | _ => none
theorem keyD_rp {M : Addr → Prop} {H : Hp} (k : Key) : Rp G M H (kV k) (keyD k) := by
  cases k with
  | inl i => exact .int i
  | inr x => exact .str x
theorem itr_keys {φ : List Addr} {M : Addr → Prop} {H : Hp} {a : Addr} {o : Obj} {kvs : List (Key × V)} {ds : List (Key × D)} (hf : H a = some (.frz o (.dK kvs))) (hn : ¬ M a) (ek : kvs.map (·.1) = ds.map (·.1)) :
    ItR G φ M H (Itk a o kvs) ⟨ds.map fun kv => keyD kv.1, []⟩ := by
  intro φ2 M2 H2 C2 g2 s2 _
  have hf2 := g2.keeps.keep a _ hn hf
  have hl : kvs.length = ds.length := by simpa using congrArg List.length ek
  refine ⟨⟨hf2, by simp [hl]⟩, fun i d hi => ⟨⟨hf2, ?_⟩, fun x H3 y => ?_⟩⟩
  · have := (List.getElem?_eq_some_iff.mp hi).1
    simpa [hl] using this
  · obtain ⟨rfl, k, v, h1, rfl⟩ := y
    refine ⟨.inl rfl, ?_⟩
    rw [List.getElem?_map] at hi
    cases hd : ds[i]? with
    | none => rw [hd] at hi; cases hi
    | some p =>
      rw [hd] at hi
      cases hi
      have e1 := congrArg (fun l => l[i]?) ek
      simp only [List.getElem?_map, h1, hd, Option.map_some, Option.some.injEq] at e1
      show Rp G M2 H3 (kV k) (keyD p.1)
      rw [← e1]
      exact keyD_rp k
theorem iky_i {f : SE} {ρ : Env} {C C1 : Store} {src : Src} (h : iKy f ρ C = some (src, C1)) : ∃ kvs, f ρ C = some (.dat (.dK kvs), C1) ∧ src = ⟨kvs.map fun kv => keyD kv.1, []⟩ := by
  obtain ⟨v, C2, h1, h⟩ := bnd_i h
  cases v with
  | cel n => cases h
  | dat d =>
    cases d with
    | dK kvs => cases h; exact ⟨kvs, h1, rfl⟩
    | _ => cases h
theorem sim_nlck {tk : TE} {g : TG} {tt : TT} {te : TE} {vs ws : List Nat} {fk : SE} {b : D → Env → Option Env} {ft : ST} {fe : SE} (hP : SimP G tk fk) (hG : SimG G g b ws) (hw : ∀ i ∈ ws, i ∈ vs) (hT : SimT G tt ft) (hE' : SimE G te fe) :
    SimN G (tLockA (tLc (iKeys tk) g tt te vs)) (nLc (iKy fk) b ft fe vs) := by
  intro φ M H C σ ρ d C' hE hs e Q hQ
  obtain ⟨src, C1, h1, e⟩ := bnd_i e
  obtain ⟨hlen, e⟩ := gd_i e
  obtain ⟨zs, C2, h2, e⟩ := bnd_i e
  cases e
  obtain ⟨kvs, h3, rfl⟩ := iky_i h1
  obtain ⟨rfl, v, rv, q0, q1⟩ := hP φ M H C σ ρ _ C1 hE hs h3
  cases rv with
  | @dK a kv _ nM rd l ek rl =>
    have hn : a ∉ φ := fun z => nM (hs.sub a z)
    rcases rd with hd | ⟨o, hd⟩
    · refine .inl ⟨a, _, hd, trivial, fun od => ?_⟩
      have w := sw_lock (od := od) hd trivial
      refine lc_at (hE.sw w) (hs.sw w hn) (src := ⟨kvs.map fun kv => keyD kv.1, []⟩) (fun R hR => q1 a _ w _ ⟨a, od, rfl, .inl ⟨kv, upd_same, hR _ _ Ext.refl (hs.sw w hn) (itr_keys upd_same nM ek)⟩⟩) hG hw hT hE' hlen h2 (fun p H' hp x s c => ?_)
      have hk := x.keep a _ upd_same hn
      have w2 := sw_unlock (od := od) hk trivial
      have npa : p ≠ a := fun z => by rw [z, upd_same] at hp; cases hp
      refine ⟨hk, hQ p _ (by rw [upd_ne npa] at hp; exact hp) (ext_lock hd x) (s.sw w2 hn) (c.sw w2 npa)⟩
    · exact .inr (lc_at hE hs (src := ⟨kvs.map fun kv => keyD kv.1, []⟩) (fun R hR => q0 _ ⟨a, o, rfl, .inl ⟨kv, hd, hR _ _ Ext.refl hs (itr_keys hd nM ek)⟩⟩) hG hw hT hE' hlen h2 hQ)
theorem sim_sfork {tk : TE} {g : TG} {tb : TS} {fk : SE} {b : D → Env → Option Env} {ws : List Nat} {body : SS} (hP : SimP G tk fk) (hG : SimG G g b ws) (hB : SimS G tb body) : SimS G (tLockB (tFor (iKeys tk) g tb)) (sFor (iKy fk) b body) := by
  intro φ M H C σ ρ o C' hE hs e0 Dd hD
  obtain ⟨src, C1, h1, e1⟩ := bnd_i e0
  obtain ⟨kvs, h3, rfl⟩ := iky_i h1
  obtain ⟨rfl, v, rv, q0, q1⟩ := hP φ M H C σ ρ _ C1 hE hs h3
  cases rv with
  | @dK a kv _ nM rd l ek rl =>
    have hn : a ∉ φ := fun z => nM (hs.sub a z)
    rcases rd with hd | ⟨ob, hd⟩
    · refine .inl ⟨a, _, hd, trivial, fun od => ?_⟩
      have w := sw_lock (od := od) hd trivial
      refine for_at (hE.sw w) (hs.sw w hn) (src := ⟨kvs.map fun kv => keyD kv.1, []⟩) (fun R hR => q1 a _ w _ ⟨a, od, rfl, .inl ⟨kv, upd_same, hR _ _ Ext.refl (hs.sw w hn) (itr_keys upd_same nM ek)⟩⟩) hG hB e1 ?_
      have hnew : ∀ φ' M' H', Grow φ M (upd H a (.frz od (.dK kv))) φ' M' H' → a ∉ φ' := fun φ' M' H' x z => by
        obtain ⟨ps, e3, e2⟩ := x.pre
        rw [e3] at z
        rcases List.mem_append.mp z with z | z
        · exact hn z
        · have := e2 a z; rw [upd_same] at this; cases this
      cases o with
      | nx ρ1 =>
        refine fun φ' M' σ' H' x hE' s' => ?_
        have hk := x.keep a _ upd_same hn
        have w2 := sw_unlock (od := od) hk trivial
        exact ⟨hk, hD φ' M' σ' _ (grow_lock hd x) (hE'.sw w2) (s'.sw w2 (hnew _ _ _ x))⟩
      | bk ρ1 =>
        refine fun φ' M' σ' H' x hE' s' => ?_
        have hk := x.keep a _ upd_same hn
        have w2 := sw_unlock (od := od) hk trivial
        exact ⟨hk, hD φ' M' σ' _ (grow_lock hd x) (hE'.sw w2) (s'.sw w2 (hnew _ _ _ x))⟩
      | ct ρ1 =>
        refine fun φ' M' σ' H' x hE' s' => ?_
        have hk := x.keep a _ upd_same hn
        have w2 := sw_unlock (od := od) hk trivial
        exact ⟨hk, hD φ' M' σ' _ (grow_lock hd x) (hE'.sw w2) (s'.sw w2 (hnew _ _ _ x))⟩
      | rt sv =>
        refine fun φ' M' v H' x s' r' => ?_
        have hk := x.keep a _ upd_same hn
        have w2 := sw_unlock (od := od) hk trivial
        exact ⟨hk, hD φ' M' v _ (grow_lock hd x) (s'.sw w2 (hnew _ _ _ x)) (r'.sw w2)⟩
    · exact .inr (for_at hE hs (src := ⟨kvs.map fun kv => keyD kv.1, []⟩) (fun R hR => q0 _ ⟨a, ob, rfl, .inl ⟨kv, hd, hR _ _ Ext.refl hs (itr_keys hd nM ek)⟩⟩) hG hB e1 hD)

/-! ### d.update(e) -/
def mergeD (ds more : List (Key × D)) : List (Key × D) := more.foldl (fun acc kv => dPut acc kv.1 kv.2) ds
theorem merge_rel {M : Addr → Prop} {H : Hp} : ∀ {more : List (Key × V)} {mds : List (Key × D)} {kvs : List (Key × V)} {ds : List (Key × D)}, more.map (·.1) = mds.map (·.1) → RpL G M H (more.map (·.2)) (mds.map (·.2)) → kvs.map (·.1) = ds.map (·.1) → RpL G M H (kvs.map (·.2)) (ds.map (·.2)) →
    (mergeK kvs more).map (·.1) = (mergeD ds mds).map (·.1) ∧ RpL G M H ((mergeK kvs more).map (·.2)) ((mergeD ds mds).map (·.2))
  | [], [], _, _, _, _, e, r => ⟨e, r⟩
  | [], _ :: _, _, _, e, _, _, _ => by simp at e
  | _ :: _, [], _, _, e, _, _, _ => by simp at e
  | a :: more, b :: mds, kvs, ds, e, r, e2, r2 => by
    simp only [List.map_cons, List.cons.injEq] at e
    cases r with
    | cons r1 rm =>
      have p := put_rel r1 b.1 e2 r2
      have q := merge_rel (kvs := putK kvs b.1 a.2) (ds := dPut ds b.1 b.2) e.2 rm p.1 p.2
      have ea : mergeK kvs (a :: more) = mergeK (putK kvs b.1 a.2) more := by
        rw [← e.1]; rfl
      rw [ea]
      exact q
def rUpd : V → List V → Hp → VK → Prop := fun x xs H Q => ∃ (a c : Addr) (kvs more : List (Key × V)), x = .ref a ∧ xs = [.ref c] ∧ a ≠ c ∧ H a = some (.dK kvs) ∧ Rd H c (.dK more) ∧ kvs.length + more.length ≤ sizeLine ∧ Q .non (upd H a (.dK (mergeK kvs more)))
theorem mt_upd {X : Cx} : MtR X "dict.update" rUpd := by
  intro pins s σ H x xs v us Q I rx rxs h
  obtain ⟨a, c, kvs, more, rfl, rfl, ne, ha, hc, hl, q⟩ := h
  cases rx
  cases rxs with
  | cons ry rt =>
    cases rt
    cases ry
    obtain ⟨z, hd, vs, rel, dd⟩ := dk_of I.hok ha
    obtain ⟨z2, hd2, ws, rel2, dd2⟩ := dk_rd I.hok hc
    have l1 := rel.length
    have l2 := rel2.length
    refine PySem.call_meetsIn PySem.F.slot_dict_update dd.typeIs PySem.F.entry_dict_update (PySem.F.args_dict_update_2 _ _) (PySem.meets_dict_update (mixKind X.prog X.w) a c ne hd2) ⟨vs, ws, dd, dd2, by omega, fun h' d1 d2 hs => ?_⟩
    have hm : (mergeK kvs more).length ≤ sizeLine := Nat.le_trans (length_mergeK more kvs) hl
    have he : ∃ q, h'.get? a = some q := let ⟨q, _, _, hq, _⟩ := d1; ⟨q, hq⟩
    exact ⟨.non, _, d_write (t' := s.toks) I (by rw [ha]; exact True.intro) hs he (dk_new hm hd (rel2.merge rel) d1), rfl, q⟩
def dictCel (C : Store) (v : Sv) : Option (Nat × List (Key × D)) := match v with
  | .cel n => match C[n]? with
    | some (.dK ds) => some (n, ds)
    | _ => none
  | _ => none
theorem dictCel_some {C : Store} {v : Sv} {n : Nat} {ds : List (Key × D)} (h : dictCel C v = some (n, ds)) : v = .cel n ∧ C[n]? = some (.dK ds) := by
  unfold dictCel at h
  cases v with
  | dat d => cases h
  | cel m =>
    cases hc : C[m]? with
    | none => simp [hc] at h
    | some c =>
      cases c with
      | dK es => simp [hc] at h; obtain ⟨rfl, rfl⟩ := h; exact ⟨rfl, hc⟩
      | _ => simp [hc] at h
def eUpd (f g : SE) : SE := fun ρ C => bnd (f ρ C) fun v C1 => bn1 (dictCel C1 v) fun _ => bnd (g ρ C1) fun w C2 => bn1 (dictCel C2 v) fun nd => match w with
  | .dat (.dK more) => gd (nd.2.length + more.length ≤ sizeLine) (some (.dat .non, C2.set nd.1 (.dK (mergeD nd.2 more))))
  | _ => none
end
end DX

/-! DKw: d.update(e), {k: v}, blocks that leave data behind, calls with names. -/
namespace DX
open PySem PySem.Spec L2
section
variable {G : Gm}
theorem sim_upd {to te : TE} {f g : SE} (ho : SimE G to f) (he : SimE G te g) : SimE G (tBM G.K "dict" rUpd to (tCons te tNil)) (eUpd f g) := by
  intro φ M H C σ ρ s C' hE hs e0 Q hQ
  obtain ⟨v, C1, h1, e1⟩ := bnd_i e0
  obtain ⟨n0, h2, e2⟩ := bn1_i e1
  obtain ⟨w, C2, h3, e3⟩ := bnd_i e2
  obtain ⟨nd, h4, e4⟩ := bn1_i e3
  obtain ⟨n, ds⟩ := nd
  cases w with
  | cel m => cases e4
  | dat dw =>
    cases dw with
    | dK more =>
      obtain ⟨h6, e5⟩ := gd_i e4
      cases e5
      refine ho φ M H C σ ρ v C1 hE hs h1 _ fun x H1 x1 s1 r1 => ?_
      obtain ⟨n1, ds1⟩ := n0
      obtain ⟨rfl, hc1⟩ := dictCel_some h2
      obtain ⟨p, hp, rfl⟩ := r1
      obtain ⟨kv1, hk1, _⟩ := s1.cel _ _ _ hc1 hp
      refine ⟨.inr (.inr (.inl ⟨rfl, .inl ⟨_, hk1⟩⟩)), ?_⟩
      refine he φ M H1 C1 σ ρ _ C2 (hE.ext x1 hs.sub) s1 h3 _ fun y H2 x2 s2 r2 => ?_
      obtain ⟨e6, hc2⟩ := dictCel_some h4
      cases e6
      obtain ⟨kv2, hk2, l2, ek2, rl2⟩ := s2.cel _ _ _ hc2 hp
      have hpφ : p ∈ φ := List.mem_of_getElem? hp
      have hpM := s2.sub p hpφ
      cases r2 with
      | @dK c km _ nM rd l ek rl =>
        have ne : p ≠ c := fun z => nM (by rw [← z]; exact hpM)
        have l3 : kv2.length = ds.length := by simpa using congrArg List.length ek2
        have l4 : km.length = more.length := by simpa using congrArg List.length ek
        have h6' : ds.length + more.length ≤ sizeLine := h6
        obtain ⟨m1, m2⟩ := merge_rel ek rl ek2 rl2
        have hm : (mergeK kv2 km).length ≤ sizeLine := Nat.le_trans (length_mergeK km kv2) (by omega)
        exact ⟨p, c, kv2, km, rfl, rfl, ne, hk2, rd, by omega, hQ .non _ ((x1.trans x2).trans (Ext.wrote hpφ)) (wrote_ok s2 hp (CelR.dKW hpM hm m1 m2)) .non⟩
    | _ => cases e4
/-! ### {k: v} -/
def nDsp (f g : SE) : SN := fun ρ C => bnd (f ρ C) fun v C1 => bnd (g ρ C1) fun w C2 => bn1 (datOf v) fun k => bn1 (dKey k) fun k => bn1 (datOf w) fun z => some (.dK [(k, z)], C2)
theorem sim_ndsp {tk tv : TE} {f g : SE} (hk : SimE G tk f) (hv : SimE G tv g) : SimN G (tDisp [(tk, tv)]) (nDsp f g) := by
  intro φ M H C σ ρ d C' hE hs e0 Q hQ
  obtain ⟨v, C1, h1, e1⟩ := bnd_i e0
  obtain ⟨w, C2, h2, e2⟩ := bnd_i e1
  obtain ⟨k0, h3, e3⟩ := bn1_i e2
  obtain ⟨k, h4, e4⟩ := bn1_i e3
  obtain ⟨z, h5, e5⟩ := bn1_i e4
  cases e5
  intro p hp
  have g0 := alloc_grow (φ := φ) (M := M) (Ext.laid (o := .dK []) hp) hp
  have hpφ : p ∉ φ := fun q => hs.live _ (hs.sub _ q) hp
  have kM := keepsM (M := M) (o := .dK []) hp
  have hE1 : EnvR G φ (fun a => M a ∨ a = p) (upd H p (.dK [])) σ ρ := ⟨hE.len, fun i s e => let ⟨v, q1, q2⟩ := hE.at_ i s e; ⟨v, q1, q2.keeps kM fun _ _ _ e => e⟩⟩
  have s1 := hs.laidM (o := .dK []) hp
  refine hk φ _ _ C σ ρ v C1 hE1 s1 h1 _ fun x H1 x1 s2 r1 => ?_
  refine hv φ _ _ C1 σ ρ w C' (hE1.ext x1 s1.sub) s2 h2 _ fun y H2 x2 s3 r2 => ?_
  cases v with
  | cel n => cases h3
  | dat dk =>
    cases h3
    cases w with
    | cel n => cases h5
    | dat dv =>
      cases h5
      have ek := keyV r1 h4
      subst ek
      have x3 := x1.trans x2
      have hpd : H2 p = some (.dK []) := x3.keep p _ upd_same hpφ
      refine ⟨hpd, [(k, y)], rfl, Nat.le_of_ble_eq_true rfl, ?_⟩
      have xx : Ext φ H (upd H2 p (.dK [(k, y)])) := by
        refine ⟨fun a u e n => ?_, fun a h => ?_⟩
        · rw [upd_ne (ne_of_none e hp)]
          exact x3.keep a u (by rw [upd_ne (ne_of_none e hp)]; exact e) n
        · by_cases q : a = p
          · subst q; rw [upd_same]; simp
          · rw [upd_ne q]; exact x3.live a (by rw [upd_ne q]; exact h)
      have kw : Keeps (fun a => M a ∨ a = p) (fun a => M a ∨ a = p) H2 (upd H2 p (.dK [(k, y)])) := keepsW (.inr rfl)
      exact hQ p _ hp xx (s3.wroteM (.inr rfl) hpφ) ⟨[(k, y)], upd_same, small_line (Nat.le_of_ble_eq_true rfl), rfl, .one (Rp.keeps kw r2)⟩
/-! ### a block of which data alone stays -/
def frzV (n0 : Nat) (C : Store) : Sv → Option Sv
  | .dat d => some (.dat d)
  | .cel n => if n < n0 then some (.cel n) else match C[n]? with
    | some d => if nolk d = true then some (.dat d) else none
    | none => none
def frzE (n0 : Nat) (C : Store) (ρ : Env) : Env := ρ.map fun o => o.bind (frzV n0 C)
def frzF (n0 : Nat) (C : Store) : Fl → Option Fl
  | .nx ρ => some (.nx (frzE n0 C ρ))
  | .bk ρ => some (.bk (frzE n0 C ρ))
  | .ct ρ => some (.ct (frzE n0 C ρ))
  | .rt v => (frzV n0 C v).map .rt
def sFrz (m : SS) : SS := fun ρ C => bnd (m ρ C) fun o C1 => bn1 (frzF C.length C1 o) fun o' => some (o', C1.take C.length)
section
variable {φ φ' : List Addr} {M M' : Addr → Prop} {H H' : Hp} {C C1 : Store}
theorem frz_v (hs : StR G φ M H C) (g : Grow φ M H φ' M' H') (s1 : StR G φ' M' H' C1) {v : V} {x y : Sv} (r : SvR G φ' M' H' v x) (h : frzV C.length C1 x = some y) : SvR G φ M H' v y := by
  cases x with
  | dat d => cases h; exact Rp.cut g r
  | cel n =>
    obtain ⟨a, ha, rfl⟩ := r
    obtain ⟨ps, ep, hps⟩ := id g.pre
    have h : (if n < C.length then some (Sv.cel n) else match C1[n]? with | some d => if nolk d = true then some (Sv.dat d) else none | none => none) = some y := h
    by_cases hn : n < C.length
    · rw [if_pos hn] at h
      cases h
      refine ⟨a, ?_, rfl⟩
      rw [ep, List.getElem?_append_left (by rw [hs.len]; exact hn)] at ha
      exact ha
    · rw [if_neg hn] at h
      cases hc : C1[n]? with
      | none => rw [hc] at h; cases h
      | some d =>
        rw [hc] at h
        have h : (if nolk d = true then some (Sv.dat d) else none) = some y := h
        by_cases nl : nolk d = true
        · rw [if_pos nl] at h
          cases h
          have c := s1.cel n d a hc ha
          have hnew : a ∈ ps := by
            rw [ep, List.getElem?_append_right (by rw [hs.len]; omega)] at ha
            exact List.mem_of_getElem? ha
          have nM : ¬ M a := fun z => hs.live a z (hps a hnew)
          have q := (c.keeps (M' := M) ⟨fun a n _ z => n (g.up a z), fun _ _ _ e => e⟩ fun _ e => e).rp nM
          rw [unlk_of fun x z => by subst z; cases nl] at q
          exact q
        · rw [if_neg nl] at h; cases h
theorem frz_g (hs : StR G φ M H C) (g : Grow φ M H φ' M' H') : Grow φ M H φ M H' := g.ext.grow
theorem frz_e (hs : StR G φ M H C) (g : Grow φ M H φ' M' H') (s1 : StR G φ' M' H' C1) {σ : L2.St} {ρ : Env} (r : EnvR G φ' M' H' σ ρ) : EnvR G φ M H' σ (frzE C.length C1 ρ) := by
  refine ⟨by unfold frzE; rw [List.length_map]; exact r.len, fun i s e => ?_⟩
  unfold frzE at e
  rw [List.getElem?_map] at e
  cases ho : ρ[i]? with
  | none => rw [ho] at e; cases e
  | some o =>
    rw [ho] at e
    cases o with
    | none => cases e
    | some x =>
      have e : some ((frzV C.length C1 x)) = some (some s) := e
      obtain ⟨v, h1, h2⟩ := r.at_ i x ho
      exact ⟨v, h1, frz_v hs g s1 h2 (Option.some.inj e)⟩
end
theorem sim_sfrz {t : TS} {f : SS} (h : SimS G t f) : SimS G t (sFrz f) := by
  intro φ M H C σ ρ o C' hE hs e0 Dd hD
  obtain ⟨o1, C1, h1, e1⟩ := bnd_i e0
  obtain ⟨o2, h2, e2⟩ := bn1_i e1
  cases e2
  refine h φ M H C σ ρ o1 C1 hE hs h1 _ ?_
  cases o1 with
  | nx ρ1 => cases h2; exact fun φ' M' σ' H' g hE' s' => hD φ M σ' H' (frz_g hs g) (frz_e hs g s' hE') (s'.cut g hs.sub hs.len.symm)
  | bk ρ1 => cases h2; exact fun φ' M' σ' H' g hE' s' => hD φ M σ' H' (frz_g hs g) (frz_e hs g s' hE') (s'.cut g hs.sub hs.len.symm)
  | ct ρ1 => cases h2; exact fun φ' M' σ' H' g hE' s' => hD φ M σ' H' (frz_g hs g) (frz_e hs g s' hE') (s'.cut g hs.sub hs.len.symm)
  | rt v =>
    have h2' : (frzV C.length C1 v).map Fl.rt = some o := h2
    cases hv : frzV C.length C1 v with
    | none => rw [hv] at h2'; cases h2'
    | some y =>
      rw [hv] at h2'
      cases h2'
      exact fun φ' M' u H' g s' r' => hD φ M u H' (frz_g hs g) (s'.cut g hs.sub hs.len.symm) (frz_v hs g s' r' hv)
/-- the first two, three, four of a block -/
theorem sim_frz2 {a b c : TS} {f g : SS} (h1 : SimS G (tSeq a b) f) (h2 : SimS G c g) : SimS G (tSeq a (tSeq b c)) (sSeq (sFrz f) g) := sim_sseq (t := tSeq a b) (sim_sfrz h1) h2
theorem sim_frz3 {a b c d : TS} {f g : SS} (h1 : SimS G (tSeq a (tSeq b c)) f) (h2 : SimS G d g) : SimS G (tSeq a (tSeq b (tSeq c d))) (sSeq (sFrz f) g) := sim_sseq (t := tSeq a (tSeq b c)) (sim_sfrz h1) h2
theorem sim_frz4 {a b c d k : TS} {f g : SS} (h1 : SimS G (tSeq a (tSeq b (tSeq c d))) f) (h2 : SimS G k g) : SimS G (tSeq a (tSeq b (tSeq c (tSeq d k)))) (sSeq (sFrz f) g) := sim_sseq (t := tSeq a (tSeq b (tSeq c d))) (sim_sfrz h1) h2
/-! ### calls with names -/
def pick {α : Type} (is : List Nat) (xs : List α) : List α := is.filterMap fun i => xs[i]?
def gP {α : Type} (p q : Nat) (is : List Nat) (us ws : List α) : List α := if us.length = p ∧ ws.length = q then pick is (us ++ ws) else []
theorem pick_svs {φ : List Addr} {M : Addr → Prop} {H : Hp} {vs : List V} {ss : List Sv} (r : SvsR G φ M H vs ss) : ∀ is : List Nat, SvsR G φ M H (pick is vs) (pick is ss)
  | [] => .nil
  | i :: is => by
    have ih := pick_svs r is
    unfold pick at ih ⊢
    have hl := r.length
    cases h : ss[i]? with
    | none =>
      have h' : vs[i]? = none := by rw [List.getElem?_eq_none_iff] at h ⊢; omega
      rw [List.filterMap_cons_none h, List.filterMap_cons_none h']
      exact ih
    | some s =>
      obtain ⟨v, h1, h2⟩ := r.get h
      rw [List.filterMap_cons_some h, List.filterMap_cons_some h1]
      exact .cons h2 ih
theorem svs_app {φ : List Addr} {M : Addr → Prop} {H : Hp} : ∀ {vs zs : List V} {ss ks : List Sv}, SvsR G φ M H vs ss → SvsR G φ M H zs ks → SvsR G φ M H (vs ++ zs) (ss ++ ks)
  | _, _, _, _, .nil, q => q
  | _, _, _, _, .cons r t, q => .cons r (svs_app t q)
theorem pick_vals {vs : List V} {us : List Value} (r : Vals vs us) : ∀ is : List Nat, Vals (pick is vs) (pick is us)
  | [] => .nil
  | i :: is => by
    have ih := pick_vals r is
    unfold pick at ih ⊢
    have hl := Vals.length r
    cases h : vs[i]? with
    | none =>
      have h' : us[i]? = none := by rw [List.getElem?_eq_none_iff] at h ⊢; omega
      rw [List.filterMap_cons_none h, List.filterMap_cons_none h']
      exact ih
    | some s =>
      obtain ⟨v, h1, h2⟩ := Vals.get r h
      rw [List.filterMap_cons_some h, List.filterMap_cons_some h1]
      exact .cons h2 ih
theorem vals_app : ∀ {vs zs : List V} {us ws : List Value}, Vals vs us → Vals zs ws → Vals (vs ++ zs) (us ++ ws)
  | _, _, _, _, .nil, q => q
  | _, _, _, _, .cons r t, q => .cons r (vals_app t q)
theorem kb_mk {K : PySem.W.Frag} {fd : FuncData} {ps ks : List Str} {p q : Nat} {is : List Nat} (hp : ps ≠ [])
    (h : ∀ (s : Shared) (us ws : List Value), us.length = p → ws.length = q → BindsTo s fd ⟨us, ks.zip ws⟩ (ps.zip (pick is (us ++ ws)))) : KBinds K fd ps ks (gP p q is) (gP p q is) := by
  refine ⟨fun s us ws _ hl => ?_, fun {vs us zs ws} r1 r2 => ?_⟩
  · unfold gP at hl ⊢
    by_cases c : us.length = p ∧ ws.length = q
    · rw [if_pos c]; exact h s us ws c.1 c.2
    · rw [if_neg c] at hl
      exact absurd (List.length_eq_zero_iff.mp hl.symm) hp
  · have l1 := Vals.length r1
    have l2 := Vals.length r2
    unfold gP
    by_cases c : us.length = p ∧ ws.length = q
    · rw [if_pos c, if_pos (by omega)]
      exact pick_vals (vals_app r1 r2) is
    · rw [if_neg c, if_neg (by omega)]
      exact .nil
/-- a def that is called with names -/
structure Ck (P : Program) (w : World) (K : PySem.W.Frag) (mg : Str → Option Value) (base : Heap) (k : Nat) (x : Str) (ps ks : List Str) (p q : Nat) (is : List Nat) (sp : Sp) : Prop where
  ex : ∃ (f : Addr) (fd : FuncData), FnOk P w K mg base CX0 k f fd ps sp ∧ mg x = some (.ref f) ∧ PySem.W.keepIn K (.ref f) = true ∧ KBinds K fd ps ks (gP p q is) (gP p q is)
section
variable {X : Cx} {k j : Nat} {x : Str} {ps ks : List Str} {p q : Nat} {is : List Nat} {sp : Sp} {np pos : Pos} {e : Expr} {es : List Expr} {kws : List Keyword} {t tk : TA}
theorem pe_ck (c : Ck X.prog X.w X.K X.mg X.base k x ps ks p q is sp) (hr : Room j X.A) (hk : k ≤ j) (hg : Gl X x) (ha : PA X (e :: es) t) (hkw : PK X kws tk)
    (hall : (backToKw pos (keywordEach kws X.env)).all (·.1.isSome) = true := by rfl) (hks : (backToKw pos (keywordEach kws X.env)).filterMap (·.1) = ks := by rfl)
    (hdb : (x == ("__debug__" : Str)) = false := by decide) (he : starEach (e :: es) X.env = (false, eval e X.env) :: starEach es X.env := by rfl)
    (hpl : ((backTo pos (starEach (e :: es) X.env)).any (·.1) || (backToKw pos (keywordEach kws X.env)).any (·.1.isNone)) = false := by rfl) :
    PE X (.Call (.Name x np) (e :: es) kws pos) (tCallK sp (gP p q is) E0 t tk) := by
  obtain ⟨f, fd, F, hm, kp, b⟩ := c.ex
  exact pe_callK F (hr.mono hk) hg hm kp b pass0 ha hkw hall hks hdb he hpl
theorem pe_ck0 (c : Ck X.prog X.w X.K X.mg X.base k x ps ks p q is sp) (hr : Room j X.A) (hk : k ≤ j) (hg : Gl X x) (hkw : PK X kws tk)
    (hall : (backToKw pos (keywordEach kws X.env)).all (·.1.isSome) = true := by rfl) (hks : (backToKw pos (keywordEach kws X.env)).filterMap (·.1) = ks := by rfl)
    (hdb : (x == ("__debug__" : Str)) = false := by decide) (hpl : ((backTo pos (starEach [] X.env)).any (·.1) || (backToKw pos (keywordEach kws X.env)).any (·.1.isNone)) = false := by rfl) :
    PE X (.Call (.Name x np) [] kws pos) (tCallK sp (gP p q is) E0 tNil tk) := by
  obtain ⟨f, fd, F, hm, kp, b⟩ := c.ex
  refine ⟨fun pins s σ H Q I h => ?_⟩
  refine wpAny_Call_Name_kw (ld_glob I hg hm ?_ hdb)
  refine PySem.W.callWith_KW0 (h₀ := X.base) I.ok.mod.kin kp hall (thn (hkw.run pos pins s σ H _ I h) fun ws s2 ⟨zs, H2, I2, rz, q2⟩ => ⟨I2.kIn, ?_⟩) hpl
  rw [hks]
  exact run_fnk (us := []) F (hr.mono hk) b pass0 I2 .nil rz q2
end
def eCallK (np p q : Nat) (is : List Nat) (F : FE) (a b : SA) : SE := fun ρ C => bnd (a ρ C) fun ss C1 => bnd (b ρ C1) fun kk C2 => gd (ss.length = p ∧ kk.length = q ∧ (pick is (ss ++ kk)).length = np) (F (pick is (ss ++ kk)) C2)
def nCallK (np p q : Nat) (is : List Nat) (F : FN) (a b : SA) : SN := fun ρ C => bnd (a ρ C) fun ss C1 => bnd (b ρ C1) fun kk C2 => gd (ss.length = p ∧ kk.length = q ∧ (pick is (ss ++ kk)).length = np) (F (pick is (ss ++ kk)) C2)
theorem sim_callK {np p q : Nat} {is : List Nat} {F : FE} {E : XK} {ta tb : TA} {a b : SA} (ha : SimA G ta a) (hb : SimA G tb b) : SimE G (tCallK (spE G np F) (gP p q is) E ta tb) (eCallK np p q is F a b) := by
  intro φ M H C σ ρ s C' hE hs e0 Q hQ
  obtain ⟨ss, C1, h1, e1⟩ := bnd_i e0
  obtain ⟨kk, C2, h2, e2⟩ := bnd_i e1
  obtain ⟨⟨l1, l2, l3⟩, e3⟩ := gd_i e2
  refine ha φ M H C σ ρ ss C1 hE hs h1 _ fun vs H1 x1 s1 r1 => ?_
  refine hb φ M H1 C1 σ ρ kk C2 (hE.ext x1 hs.sub) s1 h2 _ fun zs H2 x2 s2 r2 => ?_
  have r3 := pick_svs (svs_app (r1.grow x2.grow s1.sub) r2) is
  have eg : gP p q is vs zs = pick is (vs ++ zs) := if_pos ⟨r1.length.trans l1, r2.length.trans l2⟩
  refine ⟨φ, M, C2, _, s, C', s2, by rw [eg]; exact r3, by rw [eg, r3.length, l3], e3, fun v H' x3 s3 rr => hQ v H' ((x1.trans x2).trans x3) s3 rr⟩
theorem sim_ncallK {np p q : Nat} {is : List Nat} {F : FN} {E : XK} {ta tb : TA} {a b : SA} (ha : SimA G ta a) (hb : SimA G tb b) : SimN G (tCallK (spN G np F) (gP p q is) E ta tb) (nCallK np p q is F a b) := by
  intro φ M H C σ ρ s C' hE hs e0 Q hQ
  obtain ⟨ss, C1, h1, e1⟩ := bnd_i e0
  obtain ⟨kk, C2, h2, e2⟩ := bnd_i e1
  obtain ⟨⟨l1, l2, l3⟩, e3⟩ := gd_i e2
  refine ha φ M H C σ ρ ss C1 hE hs h1 _ fun vs H1 x1 s1 r1 => ?_
  refine hb φ M H1 C1 σ ρ kk C2 (hE.ext x1 hs.sub) s1 h2 _ fun zs H2 x2 s2 r2 => ?_
  have r3 := pick_svs (svs_app (r1.grow x2.grow s1.sub) r2) is
  have eg : gP p q is vs zs = pick is (vs ++ zs) := if_pos ⟨r1.length.trans l1, r2.length.trans l2⟩
  refine ⟨φ, M, C2, _, s, C', s2, by rw [eg]; exact r3, by rw [eg, r3.length, l3], e3, fun p H' hp x3 s3 rr => hQ p H' ((x1.trans x2).none_ hp) ((x1.trans x2).trans x3) s3 rr⟩
end
end DX

/-! DLc2: comprehensions with two loops. -/
namespace DX
open PySem PySem.Spec L2
def compL2 (cels : List (Nat × D)) (b : D → Env → Option Env) (tt : ST) (si1 : SI) (b1 : D → Env → Option Env) (tt1 : ST) (te : SE) (vs1 : List Nat) (ρ : Env) : List D → Store → Option (List D × Store)
  | [], C => gd (stays C cels = true) (some ([], C))
  | d :: ds, C => gd (stays C cels = true) (bn1 (b d ρ) fun ρ1 => bnd (tt ρ1 C) fun k C1 =>
      if k = true then bnd (si1 ρ1 C1) fun src C2 => bnd (compL src.cels b1 tt1 te (wipeE ρ1 vs1) src.items C2) fun zs C3 => bnd (compL2 cels b tt si1 b1 tt1 te vs1 ρ ds C3) fun ys C4 => some (zs ++ ys, C4)
      else compL2 cels b tt si1 b1 tt1 te vs1 ρ ds C1)
def nLc2 (si : SI) (b : D → Env → Option Env) (tt : ST) (si1 : SI) (b1 : D → Env → Option Env) (tt1 : ST) (te : SE) (vs vs1 : List Nat) : SN := fun ρ C =>
  bnd (si ρ C) fun src C1 => bnd (compL2 src.cels b tt si1 b1 tt1 te vs1 (wipeE ρ vs) src.items C1) fun zs C2 => gd (zs.length ≤ sizeLine) (some (.lst zs, C2))
section
variable {G : Gm}
theorem turns {J : It} {n : Nat} {H0 : Hp} {Qd : Hp → Prop} {body : (Nx : Hp → Prop) → V → Hp → Prop} (Pv : Nat → Hp → Prop) (h0 : Pv 0 H0)
    (hs : ∀ i H, i < n → Pv i H → J.go i H ∧ ∀ x H', J.yld i H x H' → body (Pv (i + 1)) x H') (hd : ∀ H, Pv n H → J.stop n H ∧ Qd H) :
    ∃ W : Nat → Nat → Hp → Prop, (∃ m, W 0 m H0) ∧ ∀ i m H, W i m H → (J.stop i H ∧ Qd H) ∨ (J.go i H ∧ ∃ Nx : Hp → Prop, (∀ H', Nx H' → ∃ m', m' < m ∧ W (i + 1) m' H') ∧ ∀ x H', J.yld i H x H' → body Nx x H') := by
  refine ⟨fun i m H => m = n - i ∧ i ≤ n ∧ Pv i H, ⟨n, by simp, Nat.zero_le _, h0⟩, fun i m H ⟨hm, hi, p⟩ => ?_⟩
  subst hm
  by_cases hlt : i < n
  · obtain ⟨a, b⟩ := hs i H hlt p
    exact .inr ⟨a, Pv (i + 1), fun H' p' => ⟨n - (i + 1), by omega, rfl, hlt, p'⟩, b⟩
  · have e : i = n := by omega
    subst e
    exact .inl (hd H p)
variable {φ : List Addr} {M : Addr → Prop} {H0 : Hp} {C0 C' : Store} {σ : L2.St} {ρ : Env}
theorem Ext.more {Dn : Addr} {H H' : Hp} (x : Ext φ H H') : Ext (Dn :: φ) H H' := ⟨fun a u e n => x.keep a u e fun z => n (List.mem_cons_of_mem _ z), x.live⟩
theorem ext_push {Dn : Addr} {H : Hp} {u : HO} : Ext (Dn :: φ) H (upd H Dn u) := Ext.wrote List.mem_cons_self
theorem in_at {Dn : Addr} {J : It} {src : Src} {g : TG} {b : D → Env → Option Env} {vs ws : List Nat} {tt : TT} {ft : ST} {te : TE} {fe : SE} {acc0V : List V} {acc0 zs : List D} {Nx : Hp → Prop}
    (hE : EnvR G φ M H0 σ ρ) (hs : StR G φ M H0 C0) (itr : ItR G φ M H0 J src) (hM : M Dn) (hDφ : Dn ∉ φ) (h0 : H0 Dn = some (.lst acc0V)) (r0 : RpL G M H0 acc0V acc0)
    (hG : SimG G g b ws) (hw : ∀ i ∈ ws, i ∈ vs) (hT : SimT G tt ft) (hE' : SimE G te fe) (hc0 : compL src.cels b ft fe (wipeE ρ vs) src.items C0 = some (zs, C')) (hlen : (acc0 ++ zs).length ≤ sizeLine)
    (hN : ∀ H' accV, Ext (Dn :: φ) H0 H' → StR G φ M H' C' → H' Dn = some (.lst accV) → RpL G M H' accV (acc0 ++ zs) → Nx H') :
    ∃ W : Nat → Nat → Hp → Prop, (∃ m, W 0 m H0) ∧ ∀ i m H, W i m H → (J.stop i H ∧ Nx H) ∨ (J.go i H ∧ ∃ N1 : Hp → Prop, (∀ H', N1 H' → ∃ m', m' < m ∧ W (i + 1) m' H') ∧ ∀ x H', J.yld i H x H' → g x (L2.wipe σ vs) H' fun σ2 H2 => L2.wipe σ2 vs = L2.wipe σ vs ∧ tt σ2 H2 fun k H3 =>
      if k = true then te σ2 H3 fun y H4 => ∃ acc, H4 Dn = some (.lst acc) ∧ acc.length < sizeLine ∧ N1 (upd H4 Dn (.lst (acc ++ [y]))) else N1 H3) := by
  have sub' : ∀ a ∈ Dn :: φ, M a := fun a h => by
    rcases List.mem_cons.mp h with z | z
    · rw [z]; exact hM
    · exact hs.sub a z
  refine turns (n := src.items.length) (body := fun N1 x H' => g x (L2.wipe σ vs) H' fun σ2 H2 => L2.wipe σ2 vs = L2.wipe σ vs ∧ tt σ2 H2 fun k H3 =>
      if k = true then te σ2 H3 fun y H4 => ∃ acc, H4 Dn = some (.lst acc) ∧ acc.length < sizeLine ∧ N1 (upd H4 Dn (.lst (acc ++ [y]))) else N1 H3)
    (fun i H' => ∃ Ci acc accV zs', StR G φ M H' Ci ∧ Ext (Dn :: φ) H0 H' ∧ H' Dn = some (.lst accV) ∧ RpL G M H' accV acc ∧
      compL src.cels b ft fe (wipeE ρ vs) (src.items.drop i) Ci = some (zs', C') ∧ acc0 ++ zs = acc ++ zs') ⟨C0, acc0, acc0V, zs, hs, Ext.refl, h0, r0, by simpa using hc0, rfl⟩ (fun i H' hlt ⟨Ci, acc, accV, zs', s', x', hDv, rv, hc, hz⟩ => ?_) (fun H' ⟨Ci, acc, accV, zs', s', x', hDv, rv, hc, hz⟩ => ?_)
  · have hget : src.items[i]? = some src.items[i] := List.getElem?_eq_getElem hlt
    have hdrop : src.items.drop i = src.items[i] :: src.items.drop (i + 1) := List.drop_eq_getElem_cons hlt
    rw [hdrop] at hc
    obtain ⟨hst, hc1⟩ := gd_i hc
    obtain ⟨jstop, jgo⟩ := itr φ M H' Ci ⟨x'.keeps sub', fun _ _ e => e⟩ s' hst
    obtain ⟨ρ1, hb, hc2⟩ := bn1_i hc1
    obtain ⟨k, Cb, ht, hc3⟩ := bnd_i hc2
    obtain ⟨go, yl⟩ := jgo i _ hget
    refine ⟨go, fun x H3 y => ?_⟩
    obtain ⟨hst3, rx⟩ := yl x H3 y
    obtain ⟨x3, s3⟩ := Rp.step s' hst3
    have g3 : Ext (Dn :: φ) H0 H3 := x'.trans x3.more
    have hD3 : H3 Dn = some (.lst accV) := x3.keep _ _ hDv hDφ
    have rv3 : RpL G M H3 accV acc := rv.keeps (x3.keeps s'.sub)
    have hE3 : EnvR G φ M H3 (L2.wipe σ vs) (wipeE ρ vs) := EnvR.wipe ⟨hE.len, fun i s e => let ⟨v, q1, q2⟩ := hE.at_ i s e; ⟨v, q1, q2.keeps (g3.keeps sub') fun _ _ _ e => e⟩⟩ vs
    refine hG φ _ H3 Ci _ _ x _ ρ1 hE3 s3 rx hb _ fun σ2 hE2 l2 k2 => ⟨wipe_eq l2 fun j hj => k2 j fun z => hj (hw j z), ?_⟩
    refine hT φ _ H3 Ci σ2 ρ1 k Cb hE2 s3 ht _ fun H4 x4 s4 => ?_
    have g4 := g3.trans x4.more
    have hD4 := x4.keep _ _ hD3 hDφ
    have rv4 := rv3.keeps (x4.keeps s3.sub)
    cases k with
    | false =>
      rw [if_neg Bool.false_ne_true] at hc3 ⊢
      exact ⟨Cb, acc, accV, zs', s4, g4, hD4, rv4, hc3, hz⟩
    | true =>
      rw [if_pos rfl] at hc3 ⊢
      obtain ⟨v, Cv, hv, hc4⟩ := bnd_i hc3
      obtain ⟨z, hz1, hc5⟩ := bn1_i hc4
      obtain ⟨zs2, C3, hc6, hc7⟩ := bnd_i hc5
      cases hc7
      cases v with
      | cel n => cases hz1
      | dat z0 =>
        cases hz1
        refine hE' φ _ H4 Cb σ2 ρ1 _ Cv (hE2.ext x4 s3.sub) s4 hv _ fun y H5 x5 s5 r5 => ?_
        have g5 := g4.trans x5.more
        have hD5 := x5.keep _ _ hD4 hDφ
        have rv5 := rv4.keeps (x5.keeps s4.sub)
        have kw : Keeps M M H5 (upd H5 Dn (.lst (accV ++ [y]))) := keepsW hM
        have hl := rv5.length
        rw [hz] at hlen
        simp only [List.length_append, List.length_cons] at hlen
        exact ⟨accV, hD5, by omega, Cv, acc ++ [z], accV ++ [y], zs2, s5.wroteM hM hDφ, g5.trans ext_push, upd_same, (rv5.append (.one r5)).keeps kw, hc6, by rw [hz, List.append_assoc]; rfl⟩
  · rw [List.drop_length] at hc
    obtain ⟨hst, hc1⟩ := gd_i hc
    cases hc1
    rw [List.append_nil] at hz
    exact ⟨(itr φ M H' _ ⟨x'.keeps sub', fun _ _ e => e⟩ s' hst).1, hN H' accV x' s' hDv (by rw [hz]; exact rv)⟩
theorem sim_nlc2 {wi wi1 : TI} {g g1 : TG} {tt tt1 : TT} {te : TE} {vs vs1 ws ws1 : List Nat} {si si1 : SI} {b b1 : D → Env → Option Env} {ft ft1 : ST} {fe : SE} (hI : SimI G wi si) (hG : SimG G g b ws) (hw : ∀ i ∈ ws, i ∈ vs) (hT : SimT G tt ft)
    (hI1 : SimI G wi1 si1) (hG1 : SimG G g1 b1 ws1) (hw1 : ∀ i ∈ ws1, i ∈ vs1) (hT1 : SimT G tt1 ft1) (hE' : SimE G te fe) : SimN G (tLc2 wi g tt wi1 g1 tt1 te vs vs1) (nLc2 si b ft si1 b1 ft1 fe vs vs1) := by
  intro φ M H C σ ρ d C' hE hs e0 Q hQ
  obtain ⟨src, C1, h1, e1⟩ := bnd_i e0
  obtain ⟨zs, C2, h2, e2⟩ := bnd_i e1
  obtain ⟨hlen, e3⟩ := gd_i e2
  cases e3
  refine hI φ M H C σ ρ src C1 hE hs h1 _ fun J H1 x1 s1 itr => fun Dn hD => ?_
  have hDφ : Dn ∉ φ := fun z => s1.live _ (s1.sub _ z) hD
  have k1 := keepsM (M := M) (o := .lst []) hD
  have hE1 : EnvR G φ (fun a => M a ∨ a = Dn) (upd H1 Dn (.lst [])) σ ρ := ⟨hE.len, fun i s e => let ⟨v, q1, q2⟩ := (hE.ext x1 hs.sub).at_ i s e; ⟨v, q1, q2.keeps k1 fun _ _ _ e => e⟩⟩
  have sub' : ∀ a ∈ Dn :: φ, (M a ∨ a = Dn) := fun a h => by
    rcases List.mem_cons.mp h with z | z
    · exact .inr z
    · exact .inl (hs.sub a z)
  have st1 : ∀ H', Ext (Dn :: φ) (upd H1 Dn (.lst [])) H' → Stp φ M H1 φ (fun a => M a ∨ a = Dn) H' := fun H' x => by
    refine ⟨⟨fun a n l z => ?_, fun a u n e => ?_⟩, fun _ _ e => e⟩
    · rcases z with z | z
      · exact n z
      · rw [z] at l; exact l hD
    · refine x.keep a u (by rw [upd_ne (ne_of_none e hD)]; exact e) fun z => ?_
      rcases List.mem_cons.mp z with z | z
      · exact ne_of_none e hD z
      · exact n (s1.sub a z)
  refine turns (n := src.items.length) (body := fun Nx x H' => g x (L2.wipe σ vs) H' fun σ2 H2 => L2.wipe σ2 vs = L2.wipe σ vs ∧ tt σ2 H2 fun b H3 =>
    if b = true then wi1 σ2 H3 fun J1 H4 => ∃ W1 : Nat → Nat → Hp → Prop, (∃ m, W1 0 m H4) ∧ ∀ j k H, W1 j k H →
      (J1.stop j H ∧ Nx H) ∨ (J1.go j H ∧ ∃ Nx1 : Hp → Prop, (∀ H', Nx1 H' → ∃ k', k' < k ∧ W1 (j + 1) k' H') ∧ ∀ x H', J1.yld j H x H' → g1 x (L2.wipe σ2 vs1) H' fun σ3 H5 => L2.wipe σ3 vs1 = L2.wipe σ2 vs1 ∧ tt1 σ3 H5 fun b H6 =>
        if b = true then te σ3 H6 fun y H7 => ∃ acc, H7 Dn = some (.lst acc) ∧ acc.length < sizeLine ∧ Nx1 (upd H7 Dn (.lst (acc ++ [y]))) else Nx1 H6)
    else Nx H3)
    (fun i H' => ∃ Ci acc accV zs', StR G φ (fun a => M a ∨ a = Dn) H' Ci ∧ Ext (Dn :: φ) (upd H1 Dn (.lst [])) H' ∧ H' Dn = some (.lst accV) ∧ RpL G (fun a => M a ∨ a = Dn) H' accV acc ∧
      compL2 src.cels b ft si1 b1 ft1 fe vs1 (wipeE ρ vs) (src.items.drop i) Ci = some (zs', C') ∧ zs = acc ++ zs') ⟨C1, [], [], zs, s1.laidM hD, Ext.refl, upd_same, .nil, by simpa using h2, rfl⟩ (fun i H' hlt ⟨Ci, acc, accV, zs', s', x', hDv, rv, hc, hz⟩ => ?_) (fun H' ⟨Ci, acc, accV, zs', s', x', hDv, rv, hc, hz⟩ => ?_)
  · have hget : src.items[i]? = some src.items[i] := List.getElem?_eq_getElem hlt
    have hdrop : src.items.drop i = src.items[i] :: src.items.drop (i + 1) := List.drop_eq_getElem_cons hlt
    rw [hdrop] at hc
    obtain ⟨hst, hc1⟩ := gd_i hc
    obtain ⟨jstop, jgo⟩ := itr φ _ H' Ci (st1 H' x') s' hst
    obtain ⟨ρ1, hb, hc2⟩ := bn1_i hc1
    obtain ⟨k, Cb, ht, hc3⟩ := bnd_i hc2
    obtain ⟨go, yl⟩ := jgo i _ hget
    refine ⟨go, fun x H3 y => ?_⟩
    obtain ⟨hst3, rx⟩ := yl x H3 y
    obtain ⟨x3, s3⟩ := Rp.step s' hst3
    have g3 := x'.trans x3.more
    have hD3 : H3 Dn = some (.lst accV) := x3.keep _ _ hDv hDφ
    have rv3 : RpL G (fun a => M a ∨ a = Dn) H3 accV acc := rv.keeps (x3.keeps s'.sub)
    have hE3 : EnvR G φ (fun a => M a ∨ a = Dn) H3 (L2.wipe σ vs) (wipeE ρ vs) := EnvR.wipe ⟨hE1.len, fun i s e => let ⟨v, q1, q2⟩ := hE1.at_ i s e; ⟨v, q1, q2.keeps (g3.keeps sub') fun _ _ _ e => e⟩⟩ vs
    refine hG φ _ H3 Ci _ _ x _ ρ1 hE3 s3 rx hb _ fun σ2 hE2 l2 k2 => ⟨wipe_eq l2 fun j hj => k2 j fun z => hj (hw j z), ?_⟩
    refine hT φ _ H3 Ci σ2 ρ1 k Cb hE2 s3 ht _ fun H4 x4 s4 => ?_
    have g4 := g3.trans x4.more
    have hD4 := x4.keep _ _ hD3 hDφ
    have rv4 := rv3.keeps (x4.keeps s3.sub)
    cases k with
    | false =>
      rw [if_neg Bool.false_ne_true] at hc3 ⊢
      exact ⟨Cb, acc, accV, zs', s4, g4, hD4, rv4, hc3, hz⟩
    | true =>
      rw [if_pos rfl] at hc3 ⊢
      obtain ⟨src1, Cs, hi1, hc4⟩ := bnd_i hc3
      obtain ⟨zs1, Cz, hz1, hc5⟩ := bnd_i hc4
      obtain ⟨ys, Cy, hy1, hc6⟩ := bnd_i hc5
      cases hc6
      have hE4 := hE2.ext x4 s3.sub
      refine hI1 φ _ H4 Cb σ2 ρ1 src1 Cs hE4 s4 hi1 _ fun J1 H5 x5 s5 itr1 => ?_
      have g5 := g4.trans x5.more
      have hD5 := x5.keep _ _ hD4 hDφ
      have rv5 := rv4.keeps (x5.keeps s4.sub)
      have hl2 : (acc ++ zs1).length ≤ sizeLine := by
        rw [hz] at hlen
        simp only [List.length_append] at hlen ⊢
        omega
      refine in_at (Dn := Dn) (hE4.ext x5 s4.sub) s5 itr1 (.inr rfl) hDφ hD5 rv5 hG1 hw1 hT1 hE' hz1 hl2 (fun H6 accV2 x6 s6 hD6 rv6 => ?_)
      exact ⟨Cz, acc ++ zs1, accV2, ys, s6, g5.trans x6, hD6, rv6, hy1, by rw [hz, List.append_assoc]⟩
  · rw [List.drop_length] at hc
    obtain ⟨hst, hc1⟩ := gd_i hc
    cases hc1
    refine ⟨(itr φ _ H' _ (st1 H' x') s' hst).1, ?_⟩
    have xx : Ext φ H H' := x1.trans ⟨fun a u e n => x'.keep a u (by rw [upd_ne (ne_of_none e hD)]; exact e) (fun z => by
      rcases List.mem_cons.mp z with z | z
      · exact ne_of_none e hD z
      · exact n z), fun a h => x'.live a (by
      by_cases z : a = Dn
      · rw [z, upd_same]; simp
      · rw [upd_ne z]; exact h)⟩
    rw [List.append_nil] at hz
    subst hz
    exact hQ Dn H' (x1.none_ hD) xx s' ⟨accV, hDv, by rw [rv.length]; exact hlen, rv⟩
end
end DX

/-! DPair: dict(pairs). -/
namespace DX
open PySem PySem.Spec L2
def pairsD : List D → Option (List (Key × D))
  | [] => some []
  | .tup [k, v] :: r => bn1 (dKey k) fun k => bn1 (pairsD r) fun ps => some ((k, v) :: ps)
  | _ :: _ => none
def dDictP : List D → Option D
  | [.lst xs] => bn1 (pairsD xs) fun ps => some (.dK (mergeD [] ps))
  | _ => none
def rDcP (K : PySem.W.Frag) : List V → Hp → VK → Prop := fun xs H Q => ∃ (a : Addr) (ps : List Addr) (kvs : List (Key × V)), xs = [.ref a] ∧ SqL K H a (ps.map V.ref) ∧ Paired (fun p kv => SqT K H p [kV kv.1, kv.2]) ps kvs ∧
    ∀ p, H p = none → Q (.ref p) (upd H p (.dK (mergeK [] kvs)))
theorem k_dictP {X : Cx} (K : PySem.W.Frag) (hK : X.K = K) (hc : X.calm = true) : CallR X (.type "dict") (rDcP K) := by subst hK; exact call_dictP hc
section
variable {G : Gm} {M : Addr → Prop} {H : Hp}
theorem pairs_rel : ∀ {vs : List V} {xs : List D} {ps : List (Key × D)}, RpL G M H vs xs → pairsD xs = some ps →
    ∃ (as : List Addr) (kvs : List (Key × V)), vs = as.map V.ref ∧ Paired (fun p (kv : Key × V) => SqT G.K H p [kV kv.1, kv.2]) as kvs ∧ kvs.map (·.1) = ps.map (·.1) ∧ RpL G M H (kvs.map (·.2)) (ps.map (·.2))
  | _, [], _, .nil, h => by cases h; exact ⟨[], [], rfl, .nil, rfl, .nil⟩
  | _, x :: xs, ps, .cons r t, h => by
    cases x with
    | tup ys =>
      match ys, r, h with
      | [k, v], r, h =>
        obtain ⟨k', h1, h2⟩ := bn1_i (show bn1 (dKey k) (fun k => bn1 (pairsD xs) fun ps => some ((k, v) :: ps)) = some ps from h)
        obtain ⟨ps', h3, h4⟩ := bn1_i h2
        cases h4
        obtain ⟨as, kvs, e1, e2, e3, e4⟩ := pairs_rel t h3
        cases r with
        | @tup a ws _ ta l rl =>
          cases rl with
          | @cons kk _ _ _ rk rl2 =>
            cases rl2 with
            | @cons vv _ _ _ rv rl3 =>
              cases rl3
              have ek := keyV rk h1
              subst ek
              exact ⟨a :: as, (k', vv) :: kvs, by rw [e1]; rfl, .cons ta.sq e2, by simp [e3], .cons rv e4⟩
      | [], _, h => cases h
      | [_], _, h => cases h
      | _ :: _ :: _ :: _, _, h => cases h
    | _ => cases h
theorem sim_ndictP {ta : TA} {a : SA} (ha : SimA G ta a) : SimN G (tCB (rDcP G.K) ta) (nB dDictP a) := by
  intro φ M H C σ ρ d C' hE hs e0 Q hQ
  obtain ⟨ss, C1, h1, e1⟩ := bnd_i e0
  obtain ⟨ds, h2, e2⟩ := bn1_i e1
  obtain ⟨z, h3, e3⟩ := bn1_i e2
  cases e3
  refine ha φ M H C σ ρ ss C' hE hs h1 _ fun xs H1 x1 s1 r1 => ?_
  cases r1 with
  | nil => cases h2; cases h3
  | @cons x0 s0 _ _ r t =>
    unfold sees at h2
    obtain ⟨d1, h4, h5⟩ := bn1_i h2
    obtain ⟨ds1, h6, h7⟩ := bn1_i h5
    cases h7
    cases t with
    | cons r' t' =>
      unfold sees at h6
      obtain ⟨d2, _, h8⟩ := bn1_i h6
      obtain ⟨d3, _, h9⟩ := bn1_i h8
      cases h9
      cases d1 <;> cases h3
    | nil =>
      cases h6
      cases d1 with
      | lst xs0 =>
        obtain ⟨ps, h8, h9⟩ := bn1_i (show bn1 (pairsD xs0) (fun ps => some (.dK (mergeD [] ps))) = some d from h3)
        cases h9
        have fin : ∀ (c : Addr) (vs : List V), x0 = .ref c → Rd H1 c (.lst vs) → vs.length ≤ sizeLine → RpL G M H1 vs xs0 → tCB (rDcP G.K) (fun _ H' Q' => Q' [x0] H') σ H1 Q := fun c vs ec rd hl rl => by
          obtain ⟨as, kvs, e5, e6, e7, e8⟩ := pairs_rel rl h8
          subst e5
          refine ⟨c, as, kvs, by rw [ec], .inl rd, e6, fun p hp => ?_⟩
          have k1 := keepsM (M := M) (o := .dK (mergeK [] kvs)) hp
          have ll : kvs.length ≤ sizeLine := by
            have q1 : kvs.length = ps.length := by simpa using congrArg List.length e7
            have q2 := Paired.length e6
            rw [List.length_map] at hl
            omega
          obtain ⟨m1, m2⟩ := merge_rel (kvs := []) (ds := []) (e7) (e8) rfl .nil
          exact hQ p _ (x1.none_ hp) (x1.trans (Ext.laid hp)) (s1.laidM hp) ⟨_, upd_same, Nat.le_trans (length_mergeK kvs []) (by simpa using ll), m1, m2.keeps k1⟩
        rcases s1.see_rd r h4 with ⟨_, q⟩ | ⟨n, c, cd, _, e5, _, _, hu, hc⟩
        · cases q with
          | lst nM rd hl rl => exact fin _ _ rfl rd hl rl
        · cases cd with
          | lst ys =>
            cases hu
            obtain ⟨vs, q1, q2, q3⟩ := hc
            exact fin c vs e5 (.inl q1) q2 q3
          | lk c' =>
            have hu' : D.lst xs0 = c' := hu
            subst hu'
            exact hc.elim
          | _ => cases hu
      | _ => cases h3
end
end DX

/-! DSetS: sorted(set(..)) of texts. -/
namespace DX
open PySem PySem.Spec PyProof.Rows L2
abbrev noSet (w : World) : Obj := { cls := .type "set", dict := none, data := .set #[] 0 (.fresh 0 0 (!w.params.followText "set-order")) }
/-- an entry's text -/
def tx (e : Int × Value) : Str := match e.2 with
  | .str x _ => x
  | _ => ⟨#[]⟩
def GoodT (P : Program) (w : World) (e : Int × Value) : Prop := ∃ (x : Str) (t : Tok), e.2 = .str x t ∧ e.1 = (mixKind P w).hash (.inr x)
/-- a set of the texts L -/
def SetT (P : Program) (w : World) (h : Heap) (S : Addr) (L : List Str) : Prop :=
  ∃ o es ep t, h.get? S = some o ∧ o.ExactSet ∧ o.data = .set es ep t ∧ (∀ e ∈ es.toList, GoodT P w e) ∧ (es.toList.map tx).Perm L ∧ L.Nodup ∧ es.size < scanBound ∧ t.fits es.size = true ∧ Ris t.place.toList ∧ (w.params.followText "set-order" = true ∨ t.led = true)
section
variable {P : Program} {w : World} {A : Around} {E : Value → Shared → Prop} {s : Shared} {S : Addr} {L : List Str}
theorem SetT.at {h h' : Heap} (R : SetT P w h S L) (k : ∀ o, h.get? S = some o → h'.get? S = some o) : SetT P w h' S L := by
  obtain ⟨o, es, ep, t, ho, r⟩ := R; exact ⟨o, es, ep, t, k o ho, r⟩
theorem goodT_elems {l : List (Int × Value)} (g : ∀ e ∈ l, GoodT P w e) : ElemsOf (mixKind P w) l := fun e he => by
  obtain ⟨x, t, h1, h2⟩ := g e he
  exact ⟨⟨.inr x, by rw [h1]; exact mixKind_str P w x t, h2⟩, by rw [h1] <;> rfl⟩
theorem goodT_is {e : Int × Value} (g : GoodT P w e) (x : Str) : (mixKind P w).is (.inr x) e.2 = true ↔ tx e = x := by
  obtain ⟨y, t, h1, _⟩ := g
  have e1 : tx e = y := by unfold tx; rw [h1]
  rw [e1, h1]
  constructor
  · intro h
    have q := (mixKind P w).inj _ _ _ h (mixKind_str P w y t)
    cases q; rfl
  · rintro rfl; exact mixKind_str P w y t
theorem t_tail {g : Bool → Sem Unit} (hg : ∀ (b : Bool) (z : Shared) (q : Unit → Shared → Prop), q () z → wpAny (model P w) A (g b) q E z) {o : Obj} {es : Array (Int × Value)} {ep : Nat} {t : SetTable}
    (ho : s.heap.get? S = some o) (hx : o.ExactSet) (hd : o.data = .set es ep t) {fs : Array (Int × Value)} {u : SetTable} (gd : ∀ e ∈ fs.toList, GoodT P w e) (pm : (fs.toList.map tx).Perm L) (nd : L.Nodup)
    (hb : fs.size < scanBound) (hf : u.fits fs.size = true) (hr : Ris u.place.toList) (hl : w.params.followText "set-order" = true ∨ u.led = true) {b : Bool} {R : Option Bool → Shared → Prop}
    (hR : ∀ h', Heap.SameBut S s.heap h' → SetT P w h' S L → R (some true) { s with heap := h' }) :
    wpAny (model P w) A (do
      storeSet S fs u
      if (!b && u.tooFull) = true then do
          g (relayAll u fs (SetTable.grown fs.size)).2.2
          storeSet S (relayAll u fs (SetTable.grown fs.size)).1 (relayAll u fs (SetTable.grown fs.size)).2.1
          pure (some true)
        else pure (some true)) R E s := by
  refine wpAny_bind (wpAny_storeSet_of ho hd ?_ (fits_of_scanBound hb))
  have o1 := store_at (es' := fs) (t' := u) ho hd
  have b1 := Heap.SameBut.update s.heap S (Obj.putSet fs u)
  split
  · have p2 := relayAll_perm u fs (SetTable.grown fs.size)
    have f2 := relayAll_fits u fs (SetTable.grown fs.size)
    have r2 := relayAll_ris u fs (SetTable.grown fs.size)
    have l2 := relayAll_led u fs (SetTable.grown fs.size)
    generalize relayAll u fs (SetTable.grown fs.size) = Z at p2 f2 r2 l2 ⊢
    obtain ⟨gs, v, gave⟩ := Z
    dsimp only at p2 f2 r2 l2 ⊢
    have z2 : gs.size = fs.size := by rw [← Array.length_toList, p2.length_eq, Array.length_toList]
    have b2 : gs.size < scanBound := by omega
    refine wpAny_bind (hg _ _ _ (wpAny_bind (wpAny_storeSet_of o1 rfl ?_ (fits_of_scanBound b2))))
    have o2 := store_at (es' := gs) (t' := v) o1 rfl
    exact wpAny_pure (hR _ (b1.trans (Heap.SameBut.update _ S _)) ⟨_, gs, _, v, o2, hx, rfl, fun e he => gd e (p2.mem_iff.mp he), (p2.map tx).trans pm, nd, b2, f2, r2, hl.imp id fun q => by rw [l2]; exact q⟩)
  · exact wpAny_pure (hR _ b1 ⟨_, fs, _, u, o1, hx, rfl, gd, pm, nd, hb, hf, hr, hl⟩)
theorem t_add {x : Str} {tk : Tok} {Q : Bool → Shared → Prop} (R : SetT P w s.heap S L) (room : L.length + 1 < scanBound)
    (hQ : ∀ r h' L', Heap.SameBut S s.heap h' → SetT P w h' S L' → (∀ y, y ∈ L' ↔ y ∈ L ∨ y = x) → L'.length ≤ L.length + 1 → Q r { s with heap := h' }) :
    wpAny (model P w) A (setAddHashed S (.str x tk) ((mixKind P w).hash (.inr x))) Q E s := by
  obtain ⟨o, es, ep, t, ho, hx, hd, gd, pm, nd, hb, hf, hr, hl⟩ := R
  have hk := mixKind_str P w x tk
  have sc : (Value.str x tk).scannable = true := rfl
  have el := goodT_elems gd
  unfold setAddHashed setAddHashedIn
  refine wpAny_holding (wpAny_bind (wpAny_setState_of ho hd hf ?_))
  dsimp only
  rw [byScan_of sc hb el]
  simp only [↓reduceIte]
  unfold setAddByScan
  refine wpAny_bind (wpAny_bind (wpAny_rule (wpAny_bind (wpAny_setScan_of hk ho hd hf el ?_))))
  cases hfi : List.findIdx? (fun e => (mixKind P w).is (.inr x) e.2) es.toList with
  | some j =>
    dsimp only
    obtain ⟨hj, pj, _⟩ := List.findIdx?_eq_some_iff_getElem.mp hfi
    have hm : x ∈ L := pm.mem_iff.mp (List.mem_map.mpr ⟨es.toList[j], List.getElem_mem hj, (goodT_is (gd _ (List.getElem_mem hj)) x).1 pj⟩)
    exact wpAny_pure (wpAny_pure (hQ _ s.heap L (Heap.SameBut.refl S s.heap) ⟨o, es, ep, t, ho, hx, hd, gd, pm, nd, hb, hf, hr, hl⟩ (fun y => ⟨.inl, fun z => z.elim id fun q => by rw [q]; exact hm⟩) (Nat.le_succ _)))
  | none =>
    dsimp only
    have nm : x ∉ L := fun z => by
      obtain ⟨e, he, q⟩ := List.mem_map.mp (pm.mem_iff.mpr z)
      have c := List.findIdx?_eq_none_iff.mp hfi e he
      rw [(goodT_is (gd e he) x).2 q] at c
      cases c
    have way : ∀ (b : Bool) {z : Shared} {q : Unit → Shared → Prop}, q () z → wpAny (model P w) A (match b with | true => rule "set.scan.the-table-gave-way" | false => pure ()) q E z :=
      fun b z q h => by cases b <;> first | exact wpAny_pure h | exact wpAny_rule h
    have p1 := layNew_perm t es ((mixKind P w).hash (.inr x)) (.str x tk)
    have f1 := layNew_fits t es ((mixKind P w).hash (.inr x)) (.str x tk)
    have r1 := layNew_ris t es ((mixKind P w).hash (.inr x)) (.str x tk) hr
    have l1 := layNew_led t es ((mixKind P w).hash (.inr x)) (.str x tk)
    generalize layNew t es ((mixKind P w).hash (.inr x)) (.str x tk) = Z at p1 f1 r1 l1 ⊢
    obtain ⟨fs, u, dummy, gave⟩ := Z
    dsimp only at p1 f1 r1 l1 ⊢
    rw [Array.toList_push] at p1
    have p2 : fs.toList.Perm (((mixKind P w).hash (.inr x), Value.str x tk) :: es.toList) := p1.trans (List.perm_append_singleton _ _)
    have p3 : (fs.toList.map tx).Perm (x :: L) := (p2.map tx).trans (List.Perm.cons x pm)
    have g1 : ∀ e ∈ fs.toList, GoodT P w e := fun e he => by
      rcases List.mem_cons.mp (p2.mem_iff.mp he) with z | z
      · rw [z]; exact ⟨x, tk, rfl, rfl⟩
      · exact gd e z
    have n1 : (x :: L).Nodup := List.nodup_cons.mpr ⟨nm, nd⟩
    have z1 : fs.size = L.length + 1 := by
      have q := p3.length_eq
      rw [List.length_map, Array.length_toList, List.length_cons] at q
      exact q
    have b1 : fs.size < scanBound := by omega
    have l2 : w.params.followText "set-order" = true ∨ u.led = true := hl.imp id fun z => by rw [l1]; exact z
    have fin : ∀ h', Heap.SameBut S s.heap h' → SetT P w h' S (x :: L) → Q true { s with heap := h' } := fun h' sb r => hQ true h' _ sb r (fun y => by rw [List.mem_cons]; exact Or.comm) (Nat.le_refl _)
    refine wpAny_bind (way _ ?_)
    split
    · refine wpAny_bind ?_
      rw [hashByValue_scannable 8 sc]
      refine wpAny_pure (t_tail ?_ ho hx hd g1 p3 n1 b1 ?_ ?_ ?_ ?_)
      · intro b z q h; cases b <;> first | exact wpAny_pure h | exact wpAny_rule h
      · first | (split <;> first | exact f1 | exact SetTable.fits_plain_off f1) | exact f1
      · first | (split <;> exact r1) | exact r1
      · first | (split <;> exact l2) | exact l2
      · intro h' sb r; dsimp only; exact wpAny_pure (fin h' sb r)
    · refine wpAny_bind (wpAny_pure ?_)
      simp only [↓reduceIte]
      refine t_tail ?_ ho hx hd g1 p3 n1 b1 f1 r1 l2 ?_
      · intro b z q h; cases b <;> first | exact wpAny_pure h | exact wpAny_rule h
      · intro h' sb r; dsimp only; exact wpAny_pure (fin h' sb r)
end
end DX

namespace DX
open PySem PySem.Spec PyProof.Rows L2
section
variable {P : Program} {w : World} {A : Around} {E : Value → Shared → Prop} {s : Shared}
/-- the loop of set(xs) -/
theorem t_loop {I : Addr} {fp wr : List Addr} {G : Array GenState → Array GenState → Prop} {n : Nat} {Pv : Nat → Value → Prop} {St : Nat → Shared → Prop} {R : Result → Shared → Prop}
    (W : WalksS P w A.in1 I fp wr G n Pv St) (S : Addr) (nS : S ∉ fp) (xs : List Str) (hn : n = xs.length) (hb : xs.length + 1 < scanBound) (hv : ∀ i v, Pv i v → ∃ x t, xs[i]? = some x ∧ v = .str x t)
    (hR : ∀ s0 s' L, Moved (S :: wr) G s0 s' → SetT P w s'.heap S L → (∀ y, y ∈ L ↔ y ∈ xs) → s0 = s → R (.ok (.ret .none)) s') :
    ∀ (k i : Nat) (z : Shared), n - i = k → i ≤ n → St i z → Moved (S :: wr) G s z → (∃ L, SetT P w z.heap S L ∧ (∀ y, y ∈ L ↔ y ∈ xs.take i) ∧ L.length ≤ i) →
      codeAny (model P w) A (.builtin "set.update.loop" ⟨[.ref S, .ref I], []⟩) R z := by
  have nw : S ∉ wr := fun q => nS (W.sub _ q)
  have up : ∀ b ∈ wr, b ∈ S :: wr := fun b q => List.mem_cons_of_mem _ q
  intro k
  induction k with
  | zero =>
    intro i z hk hi hst hm ⟨L, hS, hL, _⟩
    have e : i = n := by omega
    subst e
    refine codeAny_builtin F.entry_set_update_loop ?_
    rw [Around.under_plainId F.plain_set_update_loop _]
    show wpAny _ A.in1 (pyNext (.ref I) >>= _) _ _ z
    refine wpAny_bind (W.done z _ _ hst fun z' m' => ?_)
    have et : xs.take i = xs := List.take_of_length_le (by omega)
    rw [et] at hL
    exact wpAny_pure (hR s z' L (Moved.trans W.gtrans hm (m'.mono up)) (hS.at fun o q => m'.heap S o nw q) hL rfl)
  | succ k ih =>
    intro i z hk hi hst hm ⟨L, hS, hL, hl⟩
    have lt : i < n := by omega
    refine codeAny_builtin F.entry_set_update_loop ?_
    rw [Around.under_plainId F.plain_set_update_loop _]
    show wpAny _ A.in1 (pyNext (.ref I) >>= _) _ _ z
    refine wpAny_bind (W.item i z _ _ lt hst fun v z' hP hst' m' => ?_)
    obtain ⟨x, t, hx, rfl⟩ := hv i v hP
    have hS1 : SetT P w z'.heap S L := hS.at fun o q => m'.heap S o nw q
    show wpAny _ A.in1 (holding [Value.str x t] (setAdd S (.str x t)) >>= _) _ _ z'
    refine wpAny_bind (wpAny_holding ?_)
    unfold setAdd
    refine wpAny_holding (wpAny_bind ((mixKind P w).pyHash (k := .inr x) (mixKind_str P w x t) ?_))
    refine t_add (s := { z' with toks := z'.toks + 1 }) hS1 (by omega) fun r h' L' sb hS2 m2 l2 => ?_
    have m3 : ∀ y, y ∈ L' ↔ y ∈ xs.take (i + 1) := fun y => by
      rw [m2 y, hL y, List.take_add_one, hx]
      simp [List.mem_append]
    refine wpAny_pure ⟨plainId_quiet F.plain_set_update_loop _, ih (i + 1) _ (by omega) lt (W.frame _ z' _ _ hst' (Nat.le_succ _) fun b q o e => ?_) (Moved.trans W.gtrans hm ((m'.mono up).then_heap (Nat.le_succ _) fun b o q e => ?_)) ⟨L', hS2, m3, by omega⟩⟩
    · rw [sb.2 b (fun c : b = S => nS (by rw [← c]; exact q))]; exact e
    · rw [sb.2 b (fun c : b = S => q (by rw [c]; exact List.mem_cons_self))]; exact e
theorem setT_fresh {h : Heap} {S : Addr} (ho : h.get? S = some (noSet w)) : SetT P w h S [] :=
  ⟨_, #[], 0, _, ho, ⟨rfl, rfl, rfl⟩, rfl, (fun e he => by simp at he), .nil, List.nodup_nil, by decide, rfl, List.Pairwise.nil, by
    show _ ∨ (!w.params.followText "set-order") = true
    cases w.params.followText "set-order" <;> simp⟩
set_option maxRecDepth 100000 in
set_option maxHeartbeats 3200000 in
theorem call_setT {l : Addr} {its : Array Value} (xs : List Str) {Q : Value → Shared → Prop} (hh : A.handled = none) (hl : s.heap.IsList l its) (hit : StrsAre its.toList xs) (hb : xs.length + 1 < scanBound)
    (h : ∀ (h' : Heap) (tk : Nat) (L : List Str), SetT P w h' s.heap.objs.size L → (∀ y, y ∈ L ↔ y ∈ xs) → (∀ b o, s.heap.get? b = some o → h'.get? b = some o) → Q (.ref s.heap.objs.size) { s with heap := h', toks := tk }) :
    wpAny (model P w) A (call (.type "set") [.ref l]) Q E s := by
  have isz : its.size = xs.length := by
    have q := StrsAre.length hit
    rwa [Array.length_toList] at q
  obtain ⟨c, tl, hmro⟩ := F.called_set.mro
  have q1 := F.called_set.made
  have q2 := F.called_set.sub
  refine wpAny_call (codeAny_of_tree ?_)
  show wpAny _ _ (callAny (.type "set") _) _ _ _
  refine wpAny_pure ⟨Code.quiet_builtin _ (by decide +kernel), codeAny_builtin F.entry_type_call ?_⟩
  rw [Around.under_plain (weight_type_call_type "set" [.ref l] []) rfl]
  have q3 := F.called_set.notType
  have q4 := F.called_set.canCreate
  have q5 := F.typeCall_set_1 (.ref l)
  repeat (any_goals (first | assumption | wp_step))
  refine codeAny_mono (code_set_led1 (.ref l) (E := E) (Q₁ := fun v z => v = .ref s.heap.objs.size ∧ z = { s with heap := s.heap.push (noSet w) }) ⟨rfl, rfl⟩) fun r z hr => ?_
  cases r with
  | error e => exact hr
  | ok fl =>
    cases fl with
    | ret obj =>
      obtain ⟨rfl, rfl⟩ := hr
      have gS : (s.heap.push (noSet w)).get? s.heap.objs.size = some (noSet w) := Heap.get?_push_size _ rfl
      have tS : Shared.TypeIs { s with heap := s.heap.push (noSet w) } (.ref s.heap.objs.size) "set" := ⟨_, gS, rfl⟩
      have q6 := F.called_set.init.lookup
      have q7 := F.called_set.init.bind (.ref s.heap.objs.size)
      repeat (any_goals (first | assumption | wp_step))
      refine codeAny_mono (codeAny_call_builtin (R := wants (fun r z => r = .none ∧ ∃ h' tk L, z = { s with heap := h', toks := tk } ∧ SetT P w h' s.heap.objs.size L ∧ (∀ y, y ∈ L ↔ y ∈ xs) ∧
          (∀ b o, s.heap.get? b = some o → h'.get? b = some o)) E) F.called_set.init.plain F.entry_set_init (check_set_init_1 tS ?_)) fun r2 z2 hr2 => ?_
      · obtain ⟨ol, hol, hcl, nl, hdl⟩ := hl
        obtain ⟨ocls, odict, odata, oslots⟩ := ol
        simp only at hcl hdl
        subst hcl; subst hdl
        have hol2 : (s.heap.push (noSet w)).get? l = some { cls := .type "list", dict := odict, data := .seq its nl, slots := oslots } := Heap.get?_push_of_some _ hol
        have q8 := F.sub_list_set
        have q9 := F.sub_list_frozenset
        have q10 : (Value.type "list" == Value.type "dict") = false := by decide
        have hl1 : (s.heap.push (noSet w)).IsList l its := ⟨_, hol2, rfl, nl, rfl⟩
        unfold Builtin.«set.__init__» noKeywords Builtin.Frozenset.updateFrom
        generalize hPI : pyIter = PI
        wp_walk
        subst hPI
        refine wpAny_pyIter_list hl1 ?_
        refine wpAny_bind (wpAny_runValue ?_)
        have ls : l < s.heap.objs.size := Heap.lt_size hol
        have hh3 : A.in1.in1.in1.handled = none := by simp [hh]
        have zs : (s.heap.push (noSet w)).objs.size = s.heap.objs.size + 1 := Heap.size_push ..
        have ne1 : l ≠ (s.heap.push (noSet w)).objs.size := by rw [zs]; exact Nat.ne_of_lt (Nat.lt_succ_of_lt ls)
        have nS : s.heap.objs.size ∉ [(s.heap.push (noSet w)).objs.size, l] := by
          simp only [List.mem_cons, List.not_mem_nil, or_false, not_or, zs]
          exact ⟨Nat.ne_of_lt (Nat.lt_succ_self _), Nat.ne_of_gt ls⟩
        have hval : ∀ (i : Nat) (v : Value), its[i]? = some v → ∃ x t, xs[i]? = some x ∧ v = .str x t := fun i v hv => by
          have q : its.toList[i]? = some v := by rw [Array.getElem?_toList]; exact hv
          obtain ⟨x, t, e⟩ := hit.all v (List.mem_of_getElem? q)
          subst e
          refine ⟨x, t, ?_, rfl⟩
          rw [← hit.strs, List.getElem?_map, q]
          rfl
        refine t_loop (s := { s with heap := (s.heap.push (noSet w)).push { cls := .type "list_iterator", data := .fields #[.ref l, .int 0 0] } }) ((Walks.list hh3 _ l ne1 its).toS) s.heap.objs.size nS xs isz hb hval ?hR (its.size - 0) 0 _ (by omega) (Nat.zero_le _)
          ⟨⟨_, Heap.get?_push_size _ rfl, rfl, rfl⟩, (hl1.push _)⟩ ?hM ?hS0
        case hS0 => exact ⟨[], setT_fresh (Heap.get?_push_of_some _ gS), fun y => by simp, Nat.le_refl _⟩
        case hM => exact ⟨fun b o _ e => e, rfl, rfl, rfl, Nat.le_refl _⟩
        case hR =>
          intro z0 z L hm hS hL e0
          subst e0
          obtain ⟨h', g2, d2, tk2, os2⟩ := z
          have e1 : g2 = s.gens := hm.gens
          have e2 : d2 = s.drawn := hm.drawn
          have e3 : os2 = s.os := hm.os
          subst e1; subst e2; subst e3
          show wpAny _ _ _ _ _ _
          refine wpAny_pure ?_
          show wpAny _ _ (ret Value.none) _ _ _
          refine wpAny_pure ⟨rfl, h', tk2, L, rfl, hS, hL, fun b o e => ?_⟩
          have b0 : b < s.heap.objs.size := Heap.lt_size e
          refine hm.heap b o (fun z => ?_) (Heap.get?_push_of_some _ (Heap.get?_push_of_some _ e))
          simp only [List.mem_cons, List.not_mem_nil, or_false, zs] at z
          rcases z with z | z
          · exact Nat.ne_of_lt b0 z
          · exact Nat.ne_of_lt (Nat.lt_succ_of_lt b0) z
      · cases r2 with
        | error e => exact hr2
        | ok fl2 =>
          cases fl2 with
          | ret r =>
            obtain ⟨rfl, h', tk, L, rfl, hS, hL, hk⟩ := hr2
            repeat (any_goals (first | assumption | wp_step))
            exact h _ _ _ hS hL hk
          | _ => exact hr2.elim
    | _ => exact hr.elim
end
end DX

namespace DX
open PySem PySem.Spec PyProof.Rows L2
section
variable {P : Program} {w : World} {A : Around} {E : Value → Shared → Prop} {s : Shared} {S : Addr} {L : List Str}
theorem txts_of : ∀ {vs : List Value}, (∀ v ∈ vs, ∃ x t, v = Value.str x t) → StrsAre vs (vs.map strOf) := fun {vs} h => strsAre_map vs h
theorem sorted_T {Q : Value → Shared → Prop} (R : SetT P w s.heap S L) (hh : A.handled = none) (h64 : L.length < 64)
    (hQ : ∀ z p (out : Array Value) (c : Nat) (ys : List Str), (∀ b o, s.heap.get? b = some o → z.heap.get? b = some o) → z.gens = s.gens → z.os = s.os → s.heap.objs.size ≤ p → z.heap.get? p = some (seqObj "list" out c) → StrsAre out.toList ys → ys.Perm L → sortedS ys = true → Q (.ref p) z) :
    wpAny (model P w) A (call (.builtin "sorted") [.ref S]) Q E s := by
  obtain ⟨o, es, ep, t, ho, hx, hd, gd, pm, nd, hb, hf, hr, hl⟩ := R
  refine Calls.call_function_entry kind_sorted plain_sorted entry_sorted (args_sorted1 _) ?_
  unfold Builtin.«sorted»
  refine wpAny_bind (m := checkCount "sorted" 1 1 _) (wpAny_pure ?_)
  refine wpAny_bind (collect_set (A := A.in1) hh ⟨o, ho, hx.1, hd⟩ hf hb hr hl fun z vs k1 hz g1 o1 pv => ?_)
  have all : ∀ v ∈ vs, ∃ x t, v = Value.str x t := fun v hv => by
    obtain ⟨e, he, q⟩ := List.mem_map.mp (pv.mem_iff.mp hv)
    obtain ⟨x, t, h1, _⟩ := gd e he
    exact ⟨x, t, by rw [← q]; exact h1⟩
  have hT := txts_of all
  have pk : (vs.map strOf).Perm L := by
    refine (pv.map strOf).trans ?_
    rw [List.map_map]
    have e : es.toList.map (strOf ∘ (·.2)) = es.toList.map tx := List.map_congr_left fun e he => by
      obtain ⟨x, t, h1, _⟩ := gd e he
      show strOf e.2 = tx e
      unfold tx
      rw [h1]
      rfl
    rw [e]
    exact pm
  have hvl : vs.length < 64 := by
    have q := pk.length_eq
    rw [List.length_map] at q
    omega
  refine wpAny_bind (wpAny_newList ?_ (small64 hvl))
  have gL : (z.heap.push (seqObj "list" vs.toArray 0)).get? z.heap.objs.size = some (seqObj "list" vs.toArray 0) := Heap.get?_push_size _ rfl
  refine wpAny_bind (wpAny_holding (wpAny_call_entry slot_list_sort ⟨_, gL, rfl⟩ entry_list_sort (list_sort_treeK strKind_oneLt gL hT.keysOf (fun v1 v2 rest e => keyKind_strs (by rw [← e]; exact hT)) hvl fun st a1 a2 => ⟨_, rfl, ?_⟩) (args_list_sort _)))
  obtain ⟨ys, b1, b2, b3⟩ := sorted_out_str hT a1 a2
  obtain ⟨c, hc⟩ := sortedHeap_at (vs := vs) (out := (arrOf st).map (·.2)) gL
  refine wpAny_pure ⟨_, rfl, hQ _ z.heap.objs.size _ c ys (fun b u e => ?_) g1 o1 hz hc b1 (b2.trans pk) b3⟩
  have q := k1 b u e
  have lt := Heap.lt_size q
  show (sortedHeap (z.heap.push (seqObj "list" vs.toArray 0)) z.heap.objs.size vs _).get? b = some u
  rw [sortedHeap_old (Nat.ne_of_lt lt) (by rw [size_push']; exact Nat.lt_succ_of_lt lt)]
  exact Heap.get?_push_of_some _ q
end
def SetS (P : Program) (w : World) (a : Addr) (L : List Str) : HO := .ext fun h => SetT P w h a L
theorem setS_new {P : Program} {w : World} {H : Hp} {h : Heap} {a : Addr} {L : List Str} (R : SetT P w h a L) : ObjOk P w H h a (SetS P w a L) := by
  have ⟨o, _, _, _, ho, _⟩ := R
  exact ⟨R, ⟨o, ho⟩, fun _ _ p k => p.at k⟩
def rSetT (K : PySem.W.Frag) (P : Program) (w : World) : List V → Hp → VK → Prop := fun xs H Q => ∃ (l : Addr) (ys : List Str), xs = [.ref l] ∧ SqL K H l (ys.map V.str) ∧ ys.length < 64 ∧
  ∀ a L, H a = none → L.Nodup → (∀ y, y ∈ L ↔ y ∈ ys) → Q (.ref a) (upd H a (SetS P w a L))
def rSrtT (P : Program) (w : World) : List V → Hp → VK → Prop := fun xs H Q => ∃ (a : Addr) (L : List Str), xs = [.ref a] ∧ H a = some (SetS P w a L) ∧ L.length < 64 ∧
  ∀ ys p, ys.Perm L → sortedS ys = true → H p = none → Q (.ref p) (upd H p (.lst (ys.map V.str)))
section
variable {X : Cx} (K : PySem.W.Frag) (P : Program) (w : World)
theorem k_set (hK : X.K = K) (hP : X.prog = P) (hw : X.w = w) (hc : X.calm = true) : CallR X (.type "set") (rSetT K P w) := by
  subst hK; subst hP; subst hw
  intro pins s σ H xs us Q I r h
  obtain ⟨l, ys, rfl, hl, h64, q⟩ := h
  rw [Vals.ref1 r]
  obtain ⟨its, rv, pl, hz⟩ := I.list hl
  have hn : H s.heap.objs.size = none := I.hok.fresh (Nat.le_refl _)
  have hb : ys.length + 1 < scanBound := by
    have : scanBound = 4096 := rfl
    omega
  refine call_setT ys (I.ok.hd hc) pl.isList (by simpa using rv.strs) hb fun h' tk L R hL k => ?_
  have nd : L.Nodup := by
    have ⟨_, _, _, _, _, _, _, _, _, nd, _⟩ := R
    exact nd
  exact ⟨.ref s.heap.objs.size, upd H s.heap.objs.size (SetS X.prog X.w s.heap.objs.size L), I.laid (t' := tk) k (Nat.le_refl _) (setS_new R), rfl, q _ L hn nd hL⟩
theorem k_srt (hP : X.prog = P) (hw : X.w = w) (hc : X.calm = true) : CallR X (.builtin "sorted") (rSrtT P w) := by
  subst hP; subst hw
  intro pins s σ H xs us Q I r h
  obtain ⟨a, L, rfl, ha, h64, q⟩ := h
  have R : SetT X.prog X.w s.heap a L := (I.hok a _ ha).1
  rw [Vals.ref1 r]
  refine sorted_T R (I.ok.hd hc) h64 fun z p out c ys k g o hp hg hs pm st => ?_
  have hlen : (ys.map V.str).length ≤ sizeLine := by
    rw [List.length_map, pm.length_eq]
    exact small64 h64
  have hn : H p = none := I.hok.fresh hp
  have J : Inv X pins σ (upd H p (.lst (ys.map V.str))) { s with heap := z.heap, gens := z.gens, drawn := z.drawn, toks := z.toks } :=
    I.call (ch := []) (Un.laid k hp hn) (I.hok.laid k hp ⟨hlen, out.toList, c, vals_of_strs hs, hg⟩) (by rw [g]; exact I.bare) (fun _ q => nomatch q)
  have e : z = { s with heap := z.heap, gens := z.gens, drawn := z.drawn, toks := z.toks } := by
    cases z; cases s; cases o; rfl
  rw [e]
  exact ⟨.ref p, _, J, rfl, q ys p pm st hn⟩
end
/-- each once -/
def once : List Str → List Str
  | [] => []
  | x :: r => if x ∈ r then once r else x :: once r
theorem mem_once {y : Str} : ∀ {l : List Str}, y ∈ once l ↔ y ∈ l
  | [] => Iff.rfl
  | x :: r => by
    unfold once
    by_cases h : x ∈ r
    · rw [if_pos h, mem_once, List.mem_cons]
      exact ⟨.inr, fun z => z.elim (fun e => by rw [e]; exact h) id⟩
    · rw [if_neg h, List.mem_cons, List.mem_cons, mem_once]
theorem nodup_once : ∀ l : List Str, (once l).Nodup
  | [] => List.nodup_nil
  | x :: r => by
    unfold once
    by_cases h : x ∈ r
    · rw [if_pos h]; exact nodup_once r
    · rw [if_neg h]; exact List.nodup_cons.mpr ⟨fun z => h (mem_once.mp z), nodup_once r⟩
theorem len_once : ∀ l : List Str, (once l).length ≤ l.length
  | [] => Nat.le_refl _
  | x :: r => by
    have ih := len_once r
    unfold once
    by_cases h : x ∈ r
    · rw [if_pos h, List.length_cons]; omega
    · rw [if_neg h, List.length_cons, List.length_cons]; omega
/-- sorted(set(e)) of texts -/
def nSortSet (f : SE) : SN := fun ρ C => bnd (f ρ C) fun v C1 => bn1 (see C1 v) fun d => match d with
  | .lst ds => bn1 (txts ds) fun xs => gd (xs.length < 64) (some (.lst ((sortStr (once xs)).map D.str), C1))
  | _ => none
theorem perm_same {α : Type} [DecidableEq α] {a b : List α} (ha : a.Nodup) (hb : b.Nodup) (h : ∀ x, x ∈ a ↔ x ∈ b) : a.Perm b := (List.perm_ext_iff_of_nodup ha hb).mpr h
section
variable {G : Gm} {P : Program} {w : World}
theorem sim_sortset {te : TE} {f : SE} (he : SimE G te f) : SimN G (tCB (rSrtT P w) (tCons (tCB (rSetT G.K P w) (tCons te tNil)) tNil)) (nSortSet f) := by
  intro φ M H C σ ρ d C' hE hs e0 Q hQ
  obtain ⟨v, C1, h1, e1⟩ := bnd_i e0
  obtain ⟨d1, h2, e2⟩ := bn1_i e1
  cases d1 with
  | lst ds =>
    obtain ⟨xs, h3, e3⟩ := bn1_i e2
    obtain ⟨h4, e4⟩ := gd_i e3
    cases e4
    refine he φ M H C σ ρ v C' hE hs h1 _ fun x H1 x1 s1 r1 => ?_
    have rp := s1.see_rp r1 h2
    have e5 := txts_some h3
    subst e5
    cases rp with
    | @lst l vs _ nM rd hl rl =>
      have e6 := Rp.txts rl
      subst e6
      refine ⟨l, xs, rfl, .inl rd, h4, fun a L ha nd hL => ?_⟩
      have x2 : Ext φ H1 (upd H1 a (SetS P w a L)) := Ext.laid ha
      have s2 := s1.laid (o := SetS P w a L) ha
      have pm : L.Perm (once xs) := perm_same nd (nodup_once xs) fun y => by rw [hL y, mem_once]
      have hL64 : L.length < 64 := by
        rw [pm.length_eq]
        exact Nat.lt_of_le_of_lt (len_once xs) h4
      refine ⟨a, L, rfl, upd_same, hL64, fun ys p pz sz hp => ?_⟩
      have e7 := sort_one (pz.trans pm) (sortedS_pw sz)
      subst e7
      have hl2 : ((sortStr (once xs)).map V.str).length ≤ sizeLine := by
        rw [List.length_map, ← pz.length_eq.symm]
        exact small64 hL64
      exact hQ p _ ((x1.trans x2).none_ hp) ((x1.trans x2).trans (Ext.laid hp)) (s2.laidM hp) (CelR.newL s2 hp hl2 (rpL_txts _))
  | _ => cases e2
end
end DX

/-! DTop: a law's own promise. -/
namespace DX
open PySem PySem.Spec PyProof.Rows L2
abbrev gm (K : PySem.W.Frag) : Gm := ⟨K, fun _ => 0⟩
def spTop (K : PySem.W.Frag) : Sp := fun vs H Q _ => ∃ (a : Addr) (ns : List Int), vs = [.ref a] ∧ SqL K H a (ns.map V.int) ∧ ns.length ≤ 63 ∧ ∀ H', Q (.bl true) H'
theorem st0 {G : Gm} {H : Hp} : StR G [] (fun _ => False) H [] where
  len := rfl
  nd := List.nodup_nil
  sub := fun _ z => nomatch z
  live := fun _ z => False.elim z
  cel := fun n d b h1 h2 => by simp at h2
theorem top_imp {G : Gm} {F : FE} (hM : ∀ ns : List Int, ns.length ≤ 63 → ∃ C', F [.dat (.scr ns)] [] = some (.dat (.bl true), C')) (vs : List V) (H : Hp) (Q : VK) (E : XK) (h : spTop G.K vs H Q E) : spE G 1 F vs H Q E := by
  obtain ⟨a, ns, rfl, hS, hl, q⟩ := h
  obtain ⟨C', hC⟩ := hM ns hl
  have hL : LstAt G (fun _ => False) H a (ns.map V.int) := by
    rcases hS with h | h
    · exact .inl ⟨id, h⟩
    · exact .inr fun _ => .inr h
  exact ⟨[], fun _ => False, [], [.dat (.scr ns)], .dat (.bl true), C', st0, .cons (.scr hL hl) .nil, rfl, hC, fun v H' _ _ r => by cases r; exact q H'⟩
end DX

/-! DEval: what the mirrors reckon, step by step. -/
namespace DX
open PySem PySem.Spec L2
section
variable {ρ : Env} {C : Store} {f g : SE} {a b : SA} {m m2 : SS} {c : ST} {n np : Nat} {d : D}
@[simp] theorem e_var {i : Nat} : eVar i ρ C = bn1 (ρ[i]?.join) fun v => some (v, C) := rfl
@[simp] theorem e_c : eC d ρ C = some (.dat d, C) := rfl
@[simp] theorem e_bin {r : D → D → Option D} : eBin r f g ρ C = bnd (f ρ C) fun v C1 => bnd (g ρ C1) fun w C2 => bn1 (see C2 v) fun d => bn1 (see C2 w) fun e => bn1 (r d e) fun z => some (.dat z, C2) := rfl
@[simp] theorem e_un {r : D → Option D} : eUn r f ρ C = bnd (f ρ C) fun v C1 => bn1 (see C1 v) fun d => bn1 (r d) fun z => some (.dat z, C1) := rfl
@[simp] theorem e_nil : aNil ρ C = some ([], C) := rfl
@[simp] theorem e_cons : aCons f a ρ C = bnd (f ρ C) fun v C1 => bnd (a ρ C1) fun vs C2 => some (v :: vs, C2) := rfl
@[simp] theorem e_b {k : List D → Option D} : eB k a ρ C = bnd (a ρ C) fun ss C1 => bn1 (sees C1 ss) fun ds => bn1 (k ds) fun z => some (.dat z, C1) := rfl
@[simp] theorem e_nb {k : List D → Option D} : nB k a ρ C = bnd (a ρ C) fun ss C1 => bn1 (sees C1 ss) fun ds => bn1 (k ds) fun z => some (z, C1) := rfl
@[simp] theorem e_nbin {r : D → D → Option D} : nBin r f g ρ C = bnd (f ρ C) fun v C1 => bnd (g ρ C1) fun w C2 => bn1 (see C2 v) fun d => bn1 (see C2 w) fun e => bn1 (r d e) fun z => some (z, C2) := rfl
@[simp] theorem e_tup : eTup a ρ C = bnd (a ρ C) fun vs C1 => bn1 (dats vs) fun ds => gd (ds.length ≤ 1000) (some (.dat (.tup ds), C1)) := rfl
@[simp] theorem e_lst : nLst a ρ C = bnd (a ρ C) fun vs C1 => bn1 (dats vs) fun ds => gd (ds.length ≤ 1000) (some (.lst ds, C1)) := rfl
@[simp] theorem e_fr {h : SN} : eFr h ρ C = bnd (h ρ C) fun d C1 => gd (nolk d = true) (some (.dat d, C1)) := rfl
@[simp] theorem t_b : tB' f ρ C = bnd (f ρ C) fun v C1 => match v with | .dat (.bl b) => some (b, C1) | _ => none := rfl
@[simp] theorem t_tru : tTru f ρ C = bnd (f ρ C) fun v C1 => bn1 (see C1 v) fun d => bn1 (truD d) fun b => some (b, C1) := rfl
@[simp] theorem t_and {p q : ST} : tAnd' p q ρ C = bnd (p ρ C) fun b C1 => if b = true then q ρ C1 else some (false, C1) := rfl
@[simp] theorem t_or {p q : ST} : tOr' p q ρ C = bnd (p ρ C) fun b C1 => if b = true then some (true, C1) else q ρ C1 := rfl
@[simp] theorem t_not : tNot' c ρ C = bnd (c ρ C) fun b C1 => some (!b, C1) := rfl
@[simp] theorem e_if : eIf c f g ρ C = bnd (c ρ C) fun b C1 => if b = true then f ρ C1 else g ρ C1 := rfl
@[simp] theorem s_nil : sNil ρ C = some (.nx ρ, C) := rfl
@[simp] theorem s_seq : sSeq m m2 ρ C = bnd (m ρ C) fun o C1 => match o with | .nx ρ1 => m2 ρ1 C1 | o => some (o, C1) := rfl
@[simp] theorem s_set {i : Nat} : sSet i f ρ C = bnd (f ρ C) fun v C1 => some (.nx (ρ.set i (some v)), C1) := rfl
@[simp] theorem s_new {i : Nat} {h : SN} : sNew i h ρ C = bnd (h ρ C) fun d C1 => some (.nx (ρ.set i (some (.cel C1.length))), C1 ++ [d]) := rfl
@[simp] theorem s_ret : sRet f ρ C = bnd (f ρ C) fun v C1 => some (.rt v, C1) := rfl
@[simp] theorem s_drop : sDrop f ρ C = bnd (f ρ C) fun _ C1 => some (.nx ρ, C1) := rfl
@[simp] theorem s_if : sIf c m m2 ρ C = bnd (c ρ C) fun b C1 => if b = true then m ρ C1 else m2 ρ C1 := rfl
@[simp] theorem e_call {F : FE} : eCall np F a ρ C = bnd (a ρ C) fun ss C1 => gd (ss.length = np) (F ss C1) := rfl
@[simp] theorem e_put {h : SE} : sPut f g h ρ C = bnd (f ρ C) fun z C1 => bnd (g ρ C1) fun v C2 => bnd (h ρ C2) fun i C3 => bn1 (datOf z) fun z => bn1 (see C3 i) fun i => match v with
  | .cel n => bn1 (C3[n]?) fun c => bn1 (putAt c i z) fun c' => some (.nx ρ, C3.set n c')
  | _ => none := by first | rfl | (unfold sPut; rfl)
@[simp] theorem see_d : see C (.dat d) = some d := rfl
@[simp] theorem see_c : see C (.cel n) = (C[n]?).map unlk := rfl
@[simp] theorem dat_d : datOf (.dat d) = some d := rfl
@[simp] theorem gd_tt {β : Type} {o : Option β} : gd True o = o := if_pos trivial
end
end DX

/-! DMath: loops and comprehensions, reckoned as a whole. -/
namespace DX
open PySem PySem.Spec L2
section
variable {cels : List (Nat × D)} {b : D → Env → Option Env} {tt : ST} {te : SE} {ρ : Env} {C : Store}
theorem comp_filter {f : D → D} {p : D → Bool} (hs : stays C cels = true) : ∀ {items : List D}, (∀ d ∈ items, ∃ ρ1, b d ρ = some ρ1 ∧ tt ρ1 C = some (p d, C) ∧ (p d = true → te ρ1 C = some (.dat (f d), C))) →
    compL cels b tt te ρ items C = some ((items.filter p).map f, C)
  | [], _ => by unfold compL; rw [gd_t hs]; rfl
  | d :: ds, h => by
    obtain ⟨ρ1, h1, h2, h3⟩ := h d List.mem_cons_self
    have ih := comp_filter (f := f) (p := p) hs (items := ds) fun x hx => h x (List.mem_cons_of_mem _ hx)
    unfold compL
    rw [gd_t hs, h1, bn1_s, h2, bnd_s, List.filter_cons]
    cases hp : p d with
    | false => rw [if_neg Bool.false_ne_true, if_neg Bool.false_ne_true]; exact ih
    | true => rw [if_pos rfl, if_pos rfl, h3 hp, bnd_s, dat_d, bn1_s, ih]; rfl
theorem comp_map {f : D → D} (hs : stays C cels = true) {items : List D} (h : ∀ d ∈ items, ∃ ρ1, b d ρ = some ρ1 ∧ te ρ1 C = some (.dat (f d), C)) :
    compL cels b tYes' te ρ items C = some (items.map f, C) := by
  have q := comp_filter (b := b) (tt := tYes') (te := te) (ρ := ρ) (f := f) (p := fun _ => true) hs (items := items) fun d hd => let ⟨ρ1, h1, h2⟩ := h d hd; ⟨ρ1, h1, rfl, fun _ => h2⟩
  rw [List.filter_eq_self.mpr fun _ _ => rfl] at q
  exact q
/-- a loop that ends -/
theorem for_inv {body : SS} {items : List D} {I : Nat → Env → Store → Prop} (h0 : I 0 ρ C)
    (hs : ∀ i d ρ C, items[i]? = some d → I i ρ C → stays C cels = true ∧ ∃ ρ1 ρ2 C1, b d ρ = some ρ1 ∧ body ρ1 C = some (.nx ρ2, C1) ∧ I (i + 1) ρ2 C1)
    (he : ∀ ρ C, I items.length ρ C → stays C cels = true) : ∃ ρ' C', forL cels b body items ρ C = some (.nx ρ', C') ∧ I items.length ρ' C' := by
  have go : ∀ k i ρ C, items.length - i = k → i ≤ items.length → I i ρ C → ∃ ρ' C', forL cels b body (items.drop i) ρ C = some (.nx ρ', C') ∧ I items.length ρ' C' := by
    intro k
    induction k with
    | zero =>
      intro i ρ C hk hi q
      have e : i = items.length := by omega
      subst e
      refine ⟨ρ, C, ?_, q⟩
      rw [List.drop_length]
      unfold forL
      rw [gd_t (he ρ C q)]
    | succ k ih =>
      intro i ρ C hk hi q
      have lt : i < items.length := by omega
      obtain ⟨h1, ρ1, ρ2, C1, h2, h3, h4⟩ := hs i _ ρ C (List.getElem?_eq_getElem lt) q
      obtain ⟨ρ', C', h5, h6⟩ := ih (i + 1) ρ2 C1 (by omega) lt h4
      refine ⟨ρ', C', ?_, h6⟩
      rw [List.drop_eq_getElem_cons lt]
      unfold forL
      rw [gd_t h1, h2, bn1_s, h3, bnd_s]
      exact h5
  have q := go _ 0 ρ C rfl (Nat.zero_le _) h0
  rwa [List.drop_zero] at q
/-- a comprehension whose items change what is held -/
theorem comp_inv {items : List D} {I : Nat → List D → Store → Prop} (h0 : I 0 [] C)
    (hs : ∀ i d zs C, items[i]? = some d → I i zs C → stays C cels = true ∧ ∃ ρ1 k C1, b d ρ = some ρ1 ∧ tt ρ1 C = some (k, C1) ∧ ((k = false ∧ I (i + 1) zs C1) ∨ (k = true ∧ ∃ z C2, te ρ1 C1 = some (.dat z, C2) ∧ I (i + 1) (zs ++ [z]) C2)))
    (he : ∀ zs C, I items.length zs C → stays C cels = true) : ∃ zs C', compL cels b tt te ρ items C = some (zs, C') ∧ I items.length zs C' := by
  have go : ∀ k i acc C, items.length - i = k → i ≤ items.length → I i acc C → ∃ zs C', compL cels b tt te ρ (items.drop i) C = some (zs, C') ∧ I items.length (acc ++ zs) C' := by
    intro k
    induction k with
    | zero =>
      intro i acc C hk hi q
      have e : i = items.length := by omega
      subst e
      refine ⟨[], C, ?_, by rw [List.append_nil]; exact q⟩
      rw [List.drop_length]
      unfold compL
      rw [gd_t (he acc C q)]
    | succ k ih =>
      intro i acc C hk hi q
      have lt : i < items.length := by omega
      obtain ⟨h1, ρ1, kk, C1, h2, h3, h4⟩ := hs i _ acc C (List.getElem?_eq_getElem lt) q
      rw [List.drop_eq_getElem_cons lt]
      unfold compL
      rw [gd_t h1, h2, bn1_s, h3, bnd_s]
      rcases h4 with ⟨rfl, h4⟩ | ⟨rfl, z, C2, h5, h6⟩
      · rw [if_neg Bool.false_ne_true]
        exact ih (i + 1) acc C1 (by omega) lt h4
      · obtain ⟨zs, C', h7, h8⟩ := ih (i + 1) (acc ++ [z]) C2 (by omega) lt h6
        rw [if_pos rfl, h5, bnd_s, dat_d, bn1_s, h7, bnd_s]
        exact ⟨z :: zs, C', rfl, by rw [List.append_assoc] at h8; exact h8⟩
  have q := go _ 0 [] C rfl (Nat.zero_le _) h0
  rwa [List.drop_zero] at q
end
end DX
namespace DX
open PySem PySem.Spec L2
/-! ### shapes -/
mutual
/-- numbers, truths, short texts, lists and tuples, n levels deep at the most -/
def okD : Nat → D → Bool
  | _, .non => true
  | _, .bl _ => true
  | _, .int _ => true
  | _, .str x => PySem.PyData.strOk x
  | n + 1, .tup xs => okDs n xs
  | n + 1, .lst xs => okDs n xs
  | _, _ => false
def okDs : Nat → List D → Bool
  | _, [] => true
  | n, d :: ds => okD n d && okDs n ds
end
mutual
theorem okD_shp : ∀ (n : Nat) (d : D), okD n d = true → (toPy d).canLay0 = true ∧ (toPy d).depth ≤ n + 1
  | _, .non, _ => by simp [toPy, PyData.canLay0, PyData.depth]
  | _, .bl _, _ => by simp [toPy, PyData.canLay0, PyData.depth]
  | _, .int _, _ => by simp [toPy, PyData.canLay0, PyData.depth]
  | _, .str x, h => by
    refine ⟨?_, by simp [toPy, PyData.depth]⟩
    unfold okD at h
    simpa [toPy, PyData.canLay0] using h
  | n + 1, .tup xs, h => by
    have q := okDs_shp n xs (by unfold okD at h; exact h)
    refine ⟨by simpa [toPy, PyData.canLay0] using q.1, ?_⟩
    simp only [toPy, PyData.depth]
    omega
  | n + 1, .lst xs, h => by
    have q := okDs_shp n xs (by unfold okD at h; exact h)
    refine ⟨by simpa [toPy, PyData.canLay0] using q.1, ?_⟩
    simp only [toPy, PyData.depth]
    omega
  | 0, .tup _, h => by simp [okD] at h
  | 0, .lst _, h => by simp [okD] at h
  | _, .dK _, h => by simp [okD] at h
  | _, .dT _, h => by simp [okD] at h
  | _, .ins _ _, h => by simp [okD] at h
  | _, .scr _, h => by simp [okD] at h
  | _, .kt _, h => by simp [okD] at h
  | _, .lk _, h => by simp [okD] at h
theorem okDs_shp : ∀ (n : Nat) (ds : List D), okDs n ds = true → PyData.canLayAll0 (toPyL ds) = true ∧ PyData.depthAll (toPyL ds) ≤ n + 1
  | _, [], _ => by simp [toPyL, PyData.canLayAll0, PyData.depthAll]
  | n, d :: ds, h => by
    unfold okDs at h
    rw [Bool.and_eq_true] at h
    have q1 := okD_shp n d h.1
    have q2 := okDs_shp n ds h.2
    simp only [toPyL, PyData.canLayAll0, PyData.depthAll, q1.1, q2.1, Bool.and_self, true_and]
    omega
end
theorem shp_of {n : Nat} {d : D} (h : okD n d = true) (hn : n ≤ 63) : shp d = true := by
  have q := okD_shp n d h
  show ((toPy d).canLay0 && decide ((toPy d).depth ≤ 64)) = true
  rw [q.1, decide_eq_true (by omega)]
  rfl
theorem okDs_all {n : Nat} : ∀ {ds : List D}, okDs n ds = true ↔ ∀ d ∈ ds, okD n d = true
  | [] => by simp [okDs]
  | d :: ds => by
    unfold okDs
    rw [Bool.and_eq_true, okDs_all]
    simp
end DX

/-! DMore: chains, texts in order, truths by identity, walks over a dict's values, sorted rows, pairs turned about. -/
namespace DX
open PySem PySem.Spec L2 PyProof.Rows
section
variable {G : Gm}
/-! ### texts in order -/
abbrev rLtS : R2 := fun x y H Q => ∃ i j, x = .str i ∧ y = .str j ∧ Q (.bl (decide (i.cps.toList < j.cps.toList))) H
abbrev rLeS : R2 := fun x y H Q => ∃ i j, x = .str i ∧ y = .str j ∧ Q (.bl (!decide (j.cps.toList < i.cps.toList))) H
def dLtS : D → D → Option D
  | .str x, .str y => some (.bl (decide (x.cps.toList < y.cps.toList)))
  | _, _ => none
def dLeS : D → D → Option D
  | .str x, .str y => some (.bl (!decide (y.cps.toList < x.cps.toList)))
  | _, _ => none
theorem sim2_ltS : Sim2M G rLtS dLtS := by
  refine Sim2.m ?_
  intro φ M H C x y d e z hs rx ry hg Q hQ
  cases d with
  | str a =>
    cases e with
    | str b => cases hg; exact ⟨a, b, rx.strI, ry.strI, hQ _ H Ext.refl hs (.bl _)⟩
    | _ => cases hg
  | _ => cases hg
theorem sim2_leS : Sim2M G rLeS dLeS := by
  refine Sim2.m ?_
  intro φ M H C x y d e z hs rx ry hg Q hQ
  cases d with
  | str a =>
    cases e with
    | str b => cases hg; exact ⟨a, b, rx.strI, ry.strI, hQ _ H Ext.refl hs (.bl _)⟩
    | _ => cases hg
  | _ => cases hg
variable {ta tb tc : TE} {f g h : SE}
theorem sim_ltS (ha : SimE G ta f) (hb : SimE G tb g) : SimE G (tOp rLtS ta tb) (eBin dLtS f g) := sim_op sim2_ltS ha hb
theorem sim_leS (ha : SimE G ta f) (hb : SimE G tb g) : SimE G (tOp rLeS ta tb) (eBin dLeS f g) := sim_op sim2_leS ha hb
theorem sim2_leI : Sim2M G (rI0 fun i j => .bl (decide (i ≤ j))) dLe := sim2_I0 fun _ _ _ _ => .bl _

/-! ### a < b < c -/
def eChain (r r2 : D → D → Option D) (f g h : SE) : SE := fun ρ C => bnd (f ρ C) fun v C1 => bnd (g ρ C1) fun w C2 => bn1 (see C2 v) fun d => bn1 (see C2 w) fun e => bn1 (r d e) fun z => match z with
  | .bl true => bnd (h ρ C2) fun u C3 => bn1 (see C3 w) fun e' => bn1 (see C3 u) fun k => bn1 (r2 e' k) fun z' => some (.dat z', C3)
  | .bl false => some (.dat (.bl false), C2)
  | _ => none
theorem sim_chain {r r2 : R2} {k k2 : D → D → Option D} (hr : Sim2M G r k) (hr2 : Sim2M G r2 k2) (ha : SimE G ta f) (hb : SimE G tb g) (hc : SimE G tc h) : SimE G (tChain r r2 ta tb tc) (eChain k k2 f g h) := by
  intro φ M H C σ ρ s C' he hs e Q hQ
  obtain ⟨v, C1, h1, e⟩ := bnd_i e
  obtain ⟨w, C2, h2, e⟩ := bnd_i e
  obtain ⟨d, h3, e⟩ := bn1_i e
  obtain ⟨d', h4, e⟩ := bn1_i e
  obtain ⟨z, h5, e⟩ := bn1_i e
  refine ha φ M H C σ ρ v C1 he hs h1 _ fun x H1 x1 s1 r1 => ?_
  refine hb φ M H1 C1 σ ρ w C2 (he.ext x1 hs.sub) s1 h2 _ fun y H2 x2 s2 r2 => ?_
  refine hr φ M H2 C2 x y v w d d' z s2 (r1.ext x2 hs.sub) r2 h3 h4 h5 _ fun u H3 x3 s3 r3 => ?_
  cases z with
  | bl b =>
    cases r3
    cases b with
    | false => cases e; exact ⟨false, rfl, by rw [if_neg Bool.false_ne_true]; exact hQ _ H3 ((x1.trans x2).trans x3) s3 (.bl false)⟩
    | true =>
      obtain ⟨u2, C3, h6, e⟩ := bnd_i e
      obtain ⟨e', h7, e⟩ := bn1_i e
      obtain ⟨kk, h8, e⟩ := bn1_i e
      obtain ⟨z', h9, e⟩ := bn1_i e
      cases e
      refine ⟨true, rfl, ?_⟩
      rw [if_pos rfl]
      refine hc φ M H3 C2 σ ρ u2 C' (he.ext ((x1.trans x2).trans x3) hs.sub) s3 h6 _ fun q H4 x4 s4 r4 => ?_
      exact hr2 φ M H4 C' y q w u2 e' kk z' s4 (r2.ext (x3.trans x4) hs.sub) r4 h7 h8 h9 Q fun t H5 x5 s5 r5 => hQ t H5 ((((x1.trans x2).trans x3).trans x4).trans x5) s5 r5
  | _ => cases e

/-! ### x is False -/
abbrev rIsB1 : R2 := fun x y H Q => ∃ a b : Bool, x = .bl a ∧ y = .bl b ∧ Q (.bl (decide (a = b))) H
abbrev rNotB1 : R2 := fun x y H Q => ∃ a b : Bool, x = .bl a ∧ y = .bl b ∧ Q (.bl (!decide (a = b))) H
def dSameB : D → D → Option D
  | .bl x, .bl y => some (.bl (decide (x = y)))
  | _, _ => none
def dNotB : D → D → Option D
  | .bl x, .bl y => some (.bl (!decide (x = y)))
  | _, _ => none

theorem sim_sameB (ha : SimE G ta f) (hb : SimE G tb g) : SimE G (tOp rIsB1 ta tb) (eBin dSameB f g) := by
  refine sim_op (Sim2.m ?_) ha hb
  intro φ M H C x y d e z hs rx ry hg Q hQ
  cases d with
  | bl a =>
    cases e with
    | bl b => cases hg; exact ⟨a, b, rx.blI, ry.blI, hQ _ H Ext.refl hs (.bl _)⟩
    | _ => cases hg
  | _ => cases hg
theorem sim_notB (ha : SimE G ta f) (hb : SimE G tb g) : SimE G (tOp rNotB1 ta tb) (eBin dNotB f g) := by
  refine sim_op (Sim2.m ?_) ha hb
  intro φ M H C x y d e z hs rx ry hg Q hQ
  cases d with
  | bl a =>
    cases e with
    | bl b => cases hg; exact ⟨a, b, rx.blI, ry.blI, hQ _ H Ext.refl hs (.bl _)⟩
    | _ => cases hg
  | _ => cases hg

/-! ### for v in d.values() -/
def iVl (f : SE) : SI := fun ρ C => bnd (f ρ C) fun v C1 => match v with
  | .dat (.dK kvs) => some (⟨kvs.map (·.2), []⟩, C1)
  | _ => none
theorem itr_vals {φ : List Addr} {M : Addr → Prop} {H : Hp} {a : Addr} {o : Obj} {kvs : List (Key × V)} {ds : List (Key × D)} (hf : H a = some (.frz o (.dK kvs))) (hn : ¬ M a) (rl : RpL G M H (kvs.map (·.2)) (ds.map (·.2))) (hsub : ∀ a ∈ φ, M a) :
    ItR G φ M H (Itd a o kvs) ⟨ds.map (·.2), []⟩ := by
  intro φ2 M2 H2 C2 g2 s2 _
  have hf2 := g2.keeps.keep a _ hn hf
  have rl2 := rl.keeps g2.keeps
  have hl : kvs.length = ds.length := by simpa using rl.length
  refine ⟨⟨hf2, by simp [hl]⟩, fun i d hi => ⟨⟨hf2, ?_⟩, fun x H3 y => ?_⟩⟩
  · have := (List.getElem?_eq_some_iff.mp hi).1
    simpa [hl] using this
  · obtain ⟨rfl, k, h1⟩ := y
    refine ⟨.inl rfl, ?_⟩
    obtain ⟨v, hv, r⟩ := rl2.get hi
    rw [List.getElem?_map, h1] at hv
    cases hv
    exact r
theorem ivl_i {f : SE} {ρ : Env} {C C1 : Store} {src : Src} (h : iVl f ρ C = some (src, C1)) : ∃ kvs, f ρ C = some (.dat (.dK kvs), C1) ∧ src = ⟨kvs.map (·.2), []⟩ := by
  obtain ⟨v, C2, h1, h⟩ := bnd_i h
  cases v with
  | cel n => cases h
  | dat d =>
    cases d with
    | dK kvs => cases h; exact ⟨kvs, h1, rfl⟩
    | _ => cases h
theorem sim_nlcv {tk : TE} {g : TG} {tt : TT} {te : TE} {vs ws : List Nat} {fk : SE} {b : D → Env → Option Env} {ft : ST} {fe : SE} (hP : SimP G tk fk) (hG : SimG G g b ws) (hw : ∀ i ∈ ws, i ∈ vs) (hT : SimT G tt ft) (hE' : SimE G te fe) :
    SimN G (tLockA (tLc (iVals tk) g tt te vs)) (nLc (iVl fk) b ft fe vs) := by
  intro φ M H C σ ρ d C' hE hs e Q hQ
  obtain ⟨src, C1, h1, e⟩ := bnd_i e
  obtain ⟨hlen, e⟩ := gd_i e
  obtain ⟨zs, C2, h2, e⟩ := bnd_i e
  cases e
  obtain ⟨kvs, h3, rfl⟩ := ivl_i h1
  obtain ⟨rfl, v, rv, q0, q1⟩ := hP φ M H C σ ρ _ C1 hE hs h3
  cases rv with
  | @dK a kv _ nM rd l ek rl =>
    have hn : a ∉ φ := fun z => nM (hs.sub a z)
    rcases rd with hd | ⟨o, hd⟩
    · refine .inl ⟨a, _, hd, trivial, fun od => ?_⟩
      have w := sw_lock (od := od) hd trivial
      refine lc_at (hE.sw w) (hs.sw w hn) (src := ⟨kvs.map (·.2), []⟩) (fun R hR => q1 a _ w _ ⟨a, od, kv, rfl, upd_same, hR _ _ Ext.refl (hs.sw w hn) (itr_vals upd_same nM (rl.sw w) hs.sub)⟩) hG hw hT hE' hlen h2 (fun p H' hp x s c => ?_)
      have hk := x.keep a _ upd_same hn
      have w2 := sw_unlock (od := od) hk trivial
      have npa : p ≠ a := fun z => by rw [z, upd_same] at hp; cases hp
      refine ⟨hk, hQ p _ (by rw [upd_ne npa] at hp; exact hp) (ext_lock hd x) (s.sw w2 hn) (c.sw w2 npa)⟩
    · exact .inr (lc_at hE hs (src := ⟨kvs.map (·.2), []⟩) (fun R hR => q0 _ ⟨a, o, kv, rfl, hd, hR _ _ Ext.refl hs (itr_vals hd nM rl hs.sub)⟩) hG hw hT hE' hlen h2 hQ)
end
end DX

/-! DSrt: sorted(..) of texts, of rows (text, tuple of texts), of a dict's keys; a pair turned about. -/
namespace DX
open PySem PySem.Spec L2 PyProof.Rows
section
variable {X : Cx}
/-- sorted(xs), xs a list of alike data -/
def rSortD (K : PySem.W.Frag) : List V → Hp → VK → Prop := fun vs H Q => ∃ (a : Addr) (bs : List (V × D)), vs = [V.ref a] ∧ SqL K H a (bs.map (·.1)) ∧ (∀ b ∈ bs, Dp K H b.1 (toPy b.2)) ∧ PySem.W.AllAlike (bs.map fun b => toPy b.2) ∧ PySem.W.Sortable (bs.map fun b => toPy b.2) ∧ bs.length ≤ sizeLine ∧
  (∀ b ∈ bs, (toPy b.2).depth ≤ 32) ∧ ∀ p, H p = none → Q (.ref p) (upd H p (.lst ((bs.mergeSort (PySem.W.dataLe false fun b => toPy b.2)).map (·.1))))
theorem each_vals {bs : List (V × D)} : ∀ {its : List Value}, Vals (bs.map (·.1)) its → PySem.W.EachIs (fun (v : Value) (b : V × D) => RelV b.1 v) its bs := by
  induction bs with
  | nil => intro its h; cases h; exact .nil
  | cons b bs ih => intro its h; cases h with
    | cons r t => exact .cons r (ih t)
theorem vals_each {bs : List (V × D)} : ∀ {its : List Value}, PySem.W.EachIs (fun (v : Value) (b : V × D) => RelV b.1 v) its bs → Vals (bs.map (·.1)) its := by
  induction bs with
  | nil => intro its h; cases h; exact .nil
  | cons b bs ih => intro its h; cases h with
    | cons r t => exact .cons r (ih t)
theorem each_reads {X : Cx} {pins : List (Addr × Obj)} {σ : L2.St} {H : Hp} {s : Shared} (I : Inv X pins σ H s) {bs : List (V × D)} : ∀ {its : List Value}, Vals (bs.map (·.1)) its → (∀ b ∈ bs, Dp X.K H b.1 (toPy b.2)) → PySem.W.EachIs (fun (v : Value) (b : V × D) => ∃ as, Reads s.heap v (toPy b.2) as) its bs := by
  induction bs with
  | nil => intro its h _; cases h; exact .nil
  | cons b bs ih => intro its h hd; cases h with
    | cons r t => exact .cons (Dp.reads I _ _ _ (hd b List.mem_cons_self) r) (ih t fun c hc => hd c (List.mem_cons_of_mem _ hc))
theorem cr_sortD (hu : X.A.units + 64 < cLine) : CallR X (.builtin "sorted") (rSortD X.K) := by
  intro pins s σ H vs us Q I r h
  obtain ⟨a, bs, rfl, hs, hd, hal, hk, hL, hdep, q⟩ := h
  obtain ⟨its, rv, hl, hz⟩ := I.list hs
  obtain ⟨u, rfl, ru⟩ := vals1 r
  obtain rfl : u = Value.ref a := ru
  refine PySem.W.sorted_data (enc := fun b : V × D => toPy b.2) hl.isList (each_vals rv) (each_reads I rv hd) hal hk hL (fun b hb => ?_) fun out ho eo => ?_
  · have := hdep b hb
    show X.A.units + 2 + (toPy b.2).depth < cLine
    omega
  · have hv := vals_each eo
    have kp : ∀ b o, s.heap.get? b = some o → (sortedAll s.heap its (List.toArray out)).get? b = some o := fun b o => sortedAll_old
    have hd2 : s.heap.objs.size ≤ s.heap.objs.size + 1 := Nat.le_succ _
    obtain ⟨n, hn⟩ := sortedAll_at s.heap its out.toArray
    refine ⟨.ref (s.heap.objs.size + 1), _, I.laid (t' := s.toks) (o := .lst ((bs.mergeSort (PySem.W.dataLe false fun b => toPy b.2)).map (·.1))) kp hd2 ⟨?_, out, n, hv, hn⟩, rfl, q _ (I.hok.fresh hd2)⟩
    rw [List.length_map, List.length_mergeSort]
    exact hL
end
end DX

/-! DSrt2: what sorted(..) reckons; a pair turned about. -/
namespace DX
open PySem PySem.Spec L2 PyProof.Rows
def rowS : D → Bool
  | .tup [.str _, .tup ss] => (txts ss).isSome
  | _ => false
def rowD (d : D) : Bool := rowS d && okD 2 d
theorem rowS_form {d : D} (h : rowS d = true) : ∃ (x : Str) (xs : List Str), d = .tup [.str x, .tup (xs.map D.str)] := by
  unfold rowS at h
  split at h
  · rename_i x ss
    change (txts ss).isSome = true at h
    cases e : txts ss with
    | none => rw [e] at h; cases h
    | some xs => exact ⟨x, xs, by rw [txts_some e]⟩
  · cases h
theorem toPy_row (x : Str) (xs : List Str) : toPy (.tup [.str x, .tup (xs.map D.str)]) = .tuple [.str x, .tuple (xs.map PyData.str)] := by
  have q : toPyL (xs.map D.str) = xs.map PyData.str := by
    rw [toPyL_map, List.map_map]
    exact List.map_congr_left fun u _ => by simp [toPy]
  simp [toPy, toPyL, q]
theorem alike_strs : ∀ xs ys : List Str, PySem.W.alikeAll (xs.map PyData.str) (ys.map PyData.str) = true
  | [], _ => by simp [PySem.W.alikeAll]
  | _ :: _, [] => by simp [PySem.W.alikeAll]
  | x :: xs, y :: ys => by
    show PySem.W.alikeAll (.str x :: xs.map .str) (.str y :: ys.map .str) = true
    rw [PySem.W.alikeAll, alike_strs xs ys]
    simp [PySem.W.alike]
theorem alike_row (x y : Str) (xs ys : List Str) : PySem.W.alike (.tuple [.str x, .tuple (xs.map PyData.str)]) (.tuple [.str y, .tuple (ys.map PyData.str)]) = true := by
  simp [PySem.W.alike, PySem.W.alikeAll, alike_strs]
theorem depth_strs : ∀ xs : List Str, PyData.depthAll (xs.map .str) = 0
  | [] => by simp [PyData.depthAll]
  | x :: xs => by
    show PyData.depthAll (.str x :: xs.map .str) = 0
    rw [PyData.depthAll, depth_strs xs]
    simp [PyData.depth]
theorem depth_row (x : Str) (xs : List Str) : PyData.depth (.tuple [.str x, .tuple (xs.map PyData.str)]) ≤ 32 := by
  simp [PyData.depth, PyData.depthAll, depth_strs]
def keysS : List (Key × D) → Option (List Str)
  | [] => some []
  | (.inr x, _) :: r => (keysS r).map (x :: ·)
  | _ :: _ => none
theorem keysS_some : ∀ {kvs : List (Key × D)} {ks : List Str}, keysS kvs = some ks → kvs.map (·.1) = ks.map Sum.inr
  | [], ks, h => by cases h; rfl
  | (.inr x, _) :: r, ks, h => by
    unfold keysS at h
    cases hs : keysS r with
    | none => rw [hs] at h; cases h
    | some ys => rw [hs] at h; cases h; rw [List.map_cons, List.map_cons, keysS_some hs]
  | (.inl _, _) :: _, _, h => by cases h
def dSort2 : List D → Option D
  | [.lst ds] => match txts ds with
    | some xs => gd (xs.length < 64) (some (.lst ((sortStr xs).map D.str)))
    | none => gd (ds.all rowD = true ∧ ds.length ≤ 1000) (some (.lst (ds.mergeSort (PySem.W.dataLe false toPy))))
  | [.dK kvs] => bn1 (keysS kvs) fun ks => gd (ks.length < 64) (some (.lst ((sortStr ks).map D.str)))
  | _ => none
theorem sort2_lst (ds : List D) : dSort2 [.lst ds] = match txts ds with
    | some xs => gd (xs.length < 64) (some (.lst ((sortStr xs).map D.str)))
    | none => gd (ds.all rowD = true ∧ ds.length ≤ 1000) (some (.lst (ds.mergeSort (PySem.W.dataLe false toPy)))) := rfl
abbrev rSortKeys : List V → Hp → VK → Prop := fun xs H Q => ∃ (a : Addr) (kvs : List (Key × V)) (ks : List Str), xs = [.ref a] ∧ Rd H a (.dK kvs) ∧ kvs.map (·.1) = ks.map Sum.inr ∧ ks.length < 64 ∧
    ∀ ys p, ys.Perm ks → sortedS ys = true → H p = none → Q (.ref p) (upd H p (.lst (ys.map V.str)))
def rSort2 (K : PySem.W.Frag) : List V → Hp → VK → Prop := fun vs H Q => rSortedS K vs H Q ∨ (rSortKeys vs H Q ∨ rSortD K vs H Q)
theorem k_sort2 {X : Cx} (K : PySem.W.Frag) (hK : X.K = K) (hc : X.calm = true) (hu : X.A.units + 64 < cLine) : CallR X (.builtin "sorted") (rSort2 K) := by
  subst hK
  exact cr_sortedS.or ((call_sortedD hc).or (cr_sortD hu))
section
variable {G : Gm}
theorem rpL_zip {M : Addr → Prop} {H : Hp} : ∀ {vs : List V} {ds : List D}, RpL G M H vs ds → (vs.zip ds).map (·.1) = vs ∧ (vs.zip ds).map (·.2) = ds ∧ ∀ b ∈ vs.zip ds, Rp G M H b.1 b.2
  | _, _, .nil => ⟨rfl, rfl, fun _ h => by cases h⟩
  | _, _, .cons r t => by
    obtain ⟨h1, h2, h3⟩ := rpL_zip t
    refine ⟨by simp [h1], by simp [h2], fun b hb => ?_⟩
    rcases List.mem_cons.mp hb with z | z
    · rw [z]; exact r
    · exact h3 b z
theorem rpL_unzip {M : Addr → Prop} {H : Hp} : ∀ {bs : List (V × D)}, (∀ b ∈ bs, Rp G M H b.1 b.2) → RpL G M H (bs.map (·.1)) (bs.map (·.2))
  | [], _ => .nil
  | b :: bs, h => .cons (h b List.mem_cons_self) (rpL_unzip fun c hc => h c (List.mem_cons_of_mem _ hc))
theorem sim_nsort2 {ta : TA} {a : SA} (ha : SimA G ta a) : SimN G (tCB (rSort2 G.K) ta) (nB dSort2 a) := by
  intro φ M H C σ ρ d C' hE hs e Q hQ
  obtain ⟨ss, C1, h1, e⟩ := bnd_i e
  obtain ⟨ds, h2, e⟩ := bn1_i e
  obtain ⟨z, h3, e⟩ := bn1_i e
  cases e
  refine ha φ M H C σ ρ ss C' hE hs h1 _ fun xs H1 x1 s1 r1 => ?_
  cases r1 with
  | nil => simp [sees] at h2; subst h2; cases h3
  | cons r t =>
    unfold sees at h2
    obtain ⟨d1, h4, h2⟩ := bn1_i h2
    obtain ⟨ds1, h5, h2⟩ := bn1_i h2
    cases h2
    cases t with
    | cons r' t' =>
      unfold sees at h5
      obtain ⟨d2, _, h5⟩ := bn1_i h5
      obtain ⟨d3, _, h5⟩ := bn1_i h5
      cases h5
      cases d1 <;> cases h3
    | nil =>
      cases h5
      have rp := s1.see_rp r h4
      cases d1 with
      | lst xs0 =>
        rw [sort2_lst] at h3
        cases htx : txts xs0 with
        | some ys =>
          rw [htx] at h3
          obtain ⟨h7, h3⟩ := gd_i h3
          cases h3
          have e2 := txts_some htx
          subst e2
          cases rp with
          | lst nM rd hl rl =>
            have e3 := Rp.txts rl
            subst e3
            refine .inl ⟨_, ys, rfl, .inl rd, h7, fun zs p pz sz hp => ?_⟩
            have e4 := sort_one pz (sortedS_pw sz)
            subst e4
            have hl2 : ((sortStr ys).map V.str).length ≤ sizeLine := by
              rw [List.length_map, (sortStr_perm ys).length_eq]
              exact small_line (by omega)
            exact hQ p _ (x1.none_ hp) (x1.trans (Ext.laid hp)) (s1.laidM hp) (CelR.newL s1 hp hl2 (rpL_txts _))
        | none =>
          rw [htx] at h3
          obtain ⟨⟨h7, h8⟩, h3⟩ := gd_i h3
          cases h3
          rw [List.all_eq_true] at h7
          obtain ⟨aa, vs2, rfl, w1, w2, w3⟩ := s1.seeL r h4
          obtain ⟨z1, z2, z3⟩ := rpL_zip w3
          have form : ∀ b ∈ vs2.zip xs0, ∃ (x : Str) (ys : List Str), b.2 = .tup [.str x, .tup (ys.map D.str)] := fun b hb => by
            have m : b.2 ∈ xs0 := by rw [← z2]; exact List.mem_map.mpr ⟨b, hb, rfl⟩
            have q := h7 _ m
            unfold rowD at q
            rw [Bool.and_eq_true] at q
            exact rowS_form q.1
          have okb : ∀ b ∈ vs2.zip xs0, okD 2 b.2 = true := fun b hb => by
            have m : b.2 ∈ xs0 := by rw [← z2]; exact List.mem_map.mpr ⟨b, hb, rfl⟩
            have q := h7 _ m
            unfold rowD at q
            rw [Bool.and_eq_true] at q
            exact q.2
          refine .inr (.inr ⟨_, vs2.zip xs0, rfl, .inl (by rw [z1]; exact w1), fun b hb => (z3 b hb).dpS (shp_of (okb b hb) (by omega)), ?_, .inl ?_, ?_, ?_, fun p hp => ?_⟩)
          · intro d hd d' hd'
            obtain ⟨b, hb, rfl⟩ := List.mem_map.mp hd
            obtain ⟨b', hb', rfl⟩ := List.mem_map.mp hd'
            obtain ⟨x, ys, e1⟩ := form b hb
            obtain ⟨x', ys', e1'⟩ := form b' hb'
            rw [e1, e1', toPy_row, toPy_row]
            exact alike_row _ _ _ _
          · intro d hd
            obtain ⟨b, hb, rfl⟩ := List.mem_map.mp hd
            obtain ⟨x, ys, e1⟩ := form b hb
            rw [e1, toPy_row]
            exact ⟨_, _, rfl⟩
          · have : (vs2.zip xs0).length = xs0.length := by
              have q := congrArg List.length z2
              rwa [List.length_map] at q
            rw [this]
            exact small_line h8
          · intro b hb
            obtain ⟨x, ys, e1⟩ := form b hb
            rw [e1, toPy_row]
            exact depth_row _ _
          · have em : ((vs2.zip xs0).mergeSort (PySem.W.dataLe false fun b => toPy b.2)).map (·.2) = xs0.mergeSort (PySem.W.dataLe false toPy) := by
              have q := List.map_mergeSort (r := PySem.W.dataLe false fun b : V × D => toPy b.2) (s := PySem.W.dataLe false toPy) (f := fun b : V × D => b.2) (l := vs2.zip xs0) (fun a _ b _ => rfl)
              rw [z2] at q
              exact q
            have rl2 : RpL G M H1 (((vs2.zip xs0).mergeSort (PySem.W.dataLe false fun b => toPy b.2)).map (·.1)) (xs0.mergeSort (PySem.W.dataLe false toPy)) := by
              rw [← em]
              exact rpL_unzip fun b hb => z3 b ((List.mergeSort_perm _ _).mem_iff.mp hb)
            have hl2 : (((vs2.zip xs0).mergeSort (PySem.W.dataLe false fun b => toPy b.2)).map (·.1)).length ≤ sizeLine := by
              rw [rl2.length, List.length_mergeSort]
              exact small_line h8
            exact hQ p _ (x1.none_ hp) (x1.trans (Ext.laid hp)) (s1.laidM hp) (CelR.newL s1 hp hl2 rl2)
      | dK kvs =>
        obtain ⟨ys, h6, h3⟩ := bn1_i h3
        obtain ⟨h7, h3⟩ := gd_i h3
        cases h3
        have ek2 := keysS_some h6
        cases rp with
        | dK nM rd hl ek rl =>
          refine .inr (.inl ⟨_, _, ys, rfl, rd, by rw [ek, ek2], h7, fun zs p pz sz hp => ?_⟩)
          have e4 := sort_one pz (sortedS_pw sz)
          subst e4
          have hl2 : ((sortStr ys).map V.str).length ≤ sizeLine := by
            rw [List.length_map, (sortStr_perm ys).length_eq]
            exact small_line (by omega)
          exact hQ p _ (x1.none_ hp) (x1.trans (Ext.laid hp)) (s1.laidM hp) (CelR.newL s1 hp hl2 (rpL_txts _))
      | _ => cases h3
end
end DX

/-! DRev: a pair turned about. -/
namespace HT
open PySem PySem.Spec PyProof.Rows
section
variable {prog : Program} {w : World} {A : Around} {E : Value → Shared → Prop} {s : Shared}
theorem sliceApplied_back2 {sl : Addr} {vl vu vs : Value} {Q : Int × Int × Nat → Shared → Prop} (hs : s.heap.IsSliceOf sl vl vu vs) (pl : IsPart vl none) (pu : IsPart vu none) (ps : IsPart vs (some (-1)))
    (h : Q (1, -1, 2) s) : wpAny (model prog w) A (Builtin.Slice.sliceApplied (.ref sl) (pure (2 : Int))) Q E s := by
  obtain ⟨os, hos, hcs, hds⟩ := id hs
  unfold Builtin.Slice.sliceApplied Builtin.Slice.sliceFields
  refine wpAny_bind (wpAny_bind (wpAny_field hos hds (x := vl) rfl (wpAny_bind (wpAny_field hos hds (x := vu) rfl (wpAny_bind (wpAny_field hos hds (x := vs) rfl (wpAny_pure ?_)))))))
  refine wpAny_bind (slicePart_ ps ?_)
  show wpAny _ _ (if ((-1 : Int) == 0) = true then _ else _) _ _ s
  rw [if_neg (by decide)]
  refine wpAny_bind (slicePart_ pl (wpAny_bind (slicePart_ pu (wpAny_bind (wpAny_pure ?_)))))
  show wpAny _ _ (pure ((1 : Int), (-1 : Int), (2 : Nat))) _ _ s
  exact wpAny_pure h
theorem getItem_tuple_back2 {t sl : Addr} {x y vl vu vs : Value} {Q : Value → Shared → Prop} (ht : IsTup s.heap t #[x, y]) (hs : s.heap.IsSliceOf sl vl vu vs) (pl : IsPart vl none) (pu : IsPart vu none) (ps : IsPart vs (some (-1)))
    (h : Q (.ref s.heap.objs.size) { s with heap := s.heap.push { cls := .type "tuple", data := .seq #[y, x] } }) : wpAny (model prog w) A (getItem (.ref t) (.ref sl)) Q E s := by
  have htake : sizeOk (.seq #[y, x]) := by
    show 2 ≤ sizeLine
    decide
  obtain ⟨os, hos, hcs, hds⟩ := id hs
  have hTs : s.TypeIs (.ref sl) "slice" := ⟨os, hos, hcs⟩
  unfold getItem
  try with_reducible refine wpAny_holding ?_
  first | refine wpAny_bind (wpAny_pure ?_) | skip
  refine wpAny_bind (wpAny_sequenceKey ht.typeIs (by decide) ?_)
  refine wpAny_bind (wpAny_callSpecial?_slot (name := Str.ofString "__getitem__") ht.typeIs PyProof.Rows.slot_tuple_getitem
    (wpAny_call_entry PyProof.Rows.slot_tuple_getitem ht.typeIs entry_tuple_getitem ?_ (args_tuple_getitem _ _)))
  show wpAny _ _ (Builtin.Tuple.tupleItemsOf (.ref t) >>= _) _ _ s
  refine wpAny_bind (tupleItemsOf_ ht ?_)
  refine wpAny_bind (wpAny_typeOf hTs ?_)
  rw [if_pos (by decide)]
  refine wpAny_bind (sliceApplied_back2 hs pl pu ps ?_)
  show wpAny _ _ (if ((1 : Int) == 0 && (-1 : Int) == 1 && (2 : Nat) == 2) = true then _ else _) _ _ s
  rw [if_neg (by decide)]
  first
    | exact wpAny_bind (m := Builtin.Tuple.tupleExact _) (wpAny_newObj_type (wpAny_pure ⟨_, rfl, wpAny_pure h⟩) htake)
    | exact wpAny_bind (m := Builtin.Tuple.tupleExact _) (wpAny_newObj_type (wpAny_bind (wpAny_pure (wpAny_pure ⟨_, rfl, wpAny_pure h⟩))) htake)
    | exact wpAny_bind (wpAny_bind (m := Builtin.Tuple.tupleExact _) (wpAny_newObj_type (wpAny_pure (wpAny_pure ⟨_, rfl, wpAny_pure h⟩)) htake))
    | exact wpAny_bind (wpAny_bind (m := Builtin.Tuple.tupleExact _) (wpAny_newObj_type (wpAny_pure ⟨_, rfl, wpAny_pure h⟩) htake))
end
end HT
namespace DX
open PySem PySem.Spec L2 PyProof.Rows
/-- t[::-1], t a pair -/
def tBack2 (K : PySem.W.Frag) (te : TE) : TE := fun σ H Q => te σ H fun x H1 => ∃ a y z, x = .ref a ∧ SqT K H1 a [y, z] ∧ ∀ p, H1 p = none → Q (.ref p) (upd H1 p (.tup [z, y]))
theorem pe_back2 {X : Cx} {e : Expr} {te : TE} {k : Nat} {p1 p2 p3 pos : Pos} (K : PySem.W.Frag) (hK : X.K = K) (he : PE X e te) : PE X (.Subscript e (.Slice none none (some (.UnaryOp .USub (.Constant (.int 1) k p1) p2)) p3) pos) (tBack2 K te) := by
  subst hK
  refine ⟨fun pins s σ H Q I h => ?_⟩
  refine Subscript_ (thn (he.run pins s σ H _ I h) fun v s1 ⟨x, H1, I1, r1, q1⟩ => ?_)
  obtain ⟨a, y, z, ex, hx, q⟩ := q1
  subst ex
  cases r1
  have hst : PO X (some (.UnaryOp .USub (.Constant (.int 1) k p1) p2)) (tPart (tUn (rU fun i => .int (-i)) (tC (.int 1)))) := po_some (pe_un un_neg pe_int)
  refine wpAny_Slice (thn (po_none.run pins s1 σ H1 (fun o H2 => o = none ∧ H2 = H1) I1 ⟨rfl, rfl⟩) fun vl s2 ⟨l, H2, I2, pl, el, e2⟩ => ?_)
  subst el e2
  refine thn (po_none.run pins s2 σ H2 (fun o H3 => o = none ∧ H3 = H2) I2 ⟨rfl, rfl⟩) fun vu s3 ⟨u, H3, I3, pu, eu, e3⟩ => ?_
  subst eu e3
  refine thn (hst.run pins s3 σ H3 (fun o H4 => o = some (-1) ∧ H4 = H3) I3 ⟨1, rfl, -1, rfl, rfl, rfl⟩) fun vs s4 ⟨o, H4, I4, ps, eo, e4⟩ => ?_
  subst eo e4
  have I5 : Inv X pins σ H4 { s4 with heap := s4.heap.push { cls := .type "slice", data := .fields #[vl, vu, vs] } } := I4.kept (t' := s4.toks) fun b ob q => Heap.get?_push_of_some _ q
  obtain ⟨its, r, ht, hz⟩ := I5.tuple hx
  obtain ⟨u1, u2, rfl, ry, rz⟩ := vals2 r
  show wpAny (model X.prog X.w) X.A (subscriptTail e (.Slice none none (some (.UnaryOp .USub (.Constant (.int 1) k p1) p2)) p3) (.ref a) (.ref s4.heap.objs.size)) (EP X pins σ Q) X.xe { s4 with heap := s4.heap.push { cls := .type "slice", data := .fields #[vl, vu, vs] } }
  refine tail_any (ops := [.ref a, .ref s4.heap.objs.size]) ht.typeIs (PyProof.Rows.slot_tuple_getitem.lookup) ?_ (by with_unfolding_all rfl)
  refine HT.getItem_tuple_back2 ht (Heap.IsSliceOf.new _ vl vu vs) pl pu ps ?_
  refine ⟨.ref _, _, I5.laid (t' := s4.toks) (o := .tup [z, y]) (fun b ob q => Heap.get?_push_of_some _ q) (Nat.le_refl _) ?_, rfl, q _ (I5.hok.fresh (Nat.le_refl _))⟩
  exact ⟨show 2 ≤ sizeLine by decide, [u2, u1], .cons rz (.cons ry .nil), _, Heap.get?_push_size _ rfl, rfl, ⟨0, rfl⟩⟩
end DX
namespace DX
open PySem PySem.Spec L2 PyProof.Rows
section
variable {G : Gm}
def eBack2 (f : SE) : SE := fun ρ C => bnd (f ρ C) fun v C1 => bn1 (see C1 v) fun d => match d with
  | .tup [y, z] => some (.dat (.tup [z, y]), C1)
  | _ => none
theorem sim_back2 {te : TE} {f : SE} (hf : SimE G te f) : SimE G (tBack2 G.K te) (eBack2 f) := by
  intro φ M H C σ ρ s C' he hs e Q hQ
  obtain ⟨v, C1, h1, e⟩ := bnd_i e
  obtain ⟨d, h2, e⟩ := bn1_i e
  refine hf φ M H C σ ρ v C1 he hs h1 _ fun x H1 x1 s1 r1 => ?_
  cases d with
  | tup ds =>
    match ds, h2, e with
    | [y, z], h2, e =>
      cases e
      obtain ⟨a, vs, rfl, t1, l, r⟩ := s1.seeT r1 h2
      cases r with
      | @cons vy _ _ _ ry rt =>
        cases rt with
        | @cons vz _ _ _ rz rn =>
          cases rn
          refine ⟨a, vy, vz, rfl, t1.sq, fun p hp => ?_⟩
          have x2 : Ext φ H1 (upd H1 p (.tup [vz, vy])) := Ext.laid hp
          exact hQ _ _ (x1.trans x2) (s1.laid hp) (.tup ⟨s1.nm hp, upd_same⟩ (show 2 ≤ sizeLine by decide) ((RpL.cons rz (RpL.cons ry RpL.nil)).keeps (x2.keeps s1.sub)))
    | [], _, e => cases e
    | [_], _, e => cases e
    | _ :: _ :: _ :: _, _, e => cases e
  | _ => cases e
/-- a number that the program's top keeps -/
theorem pe_gint {X : Cx} {x : Str} {i : Int} {p : Pos} (hg : Gl X x) (hm : ∃ t, X.mg x = some (.int i t)) (hd : (x == ("__debug__" : Str)) = false := by decide) : PE X (.Name x p) (tC (.int i)) := by
  obtain ⟨t, h⟩ := hm
  exact pe_glob hg h ⟨t, rfl⟩ hd
end
end DX
namespace DX
open PySem PySem.Spec L2 PyProof.Rows
section
variable {G : Gm}
theorem sim_spar3 {i j l : Nat} {ta : TA} {a : SA} (ha : SimAg G ta a) : SimS G (tPar3 i j l ta) (sMul [i, j, l] a) := by
  intro φ M H C σ ρ o C' hE hs e Dd hD
  obtain ⟨ss, C1, h1, e⟩ := bnd_i e
  obtain ⟨hl, e⟩ := gd_i e
  cases e
  refine ha φ M H C σ ρ ss C' hE hs h1 _ fun vs φ' M' H1 g1 s1 r1 => ?_
  cases r1 with
  | nil => simp at hl
  | cons r t =>
    cases t with
    | nil => simp at hl
    | cons r2 t =>
      cases t with
      | nil => simp at hl
      | cons r3 t =>
        cases t with
        | cons _ _ => simp at hl
        | nil =>
          exact ⟨_, _, _, rfl, hD φ' M' _ H1 g1 ((((hE.grow g1 hs.sub).set i r).set j r2).set l r3) s1⟩
end
end DX

/-! DObj: objects of own classes: fields, methods, making; dict comprehensions. -/
namespace DX
open PySem PySem.Spec L2 PyProof.Rows
abbrev gc (K : PySem.W.Frag) (C : Addr) : Gm := ⟨K, fun _ => C⟩
def putD (f : Str) (z : D) : List (Str × D) → List (Str × D)
  | [] => [(f, z)]
  | (g, x) :: r => if g = f then (g, z) :: r else (g, x) :: putD f z r
section
variable {G : Gm}
theorem StR.seeI {φ : List Addr} {M : Addr → Prop} {H : Hp} {C : Store} {x : V} {s : Sv} {c : Str} {ds : List (Str × D)} (st : StR G φ M H C) (r : SvR G φ M H x s) (e : see C s = some (.ins c ds)) :
    ∃ a dx fs, x = .ref a ∧ H a = some (.ins (G.cls c) dx fs) ∧ fs.map (·.1) = ds.map (·.1) ∧ RpL G M H (fs.map (·.2)) (ds.map (·.2)) := by
  rcases st.see_rd r e with ⟨_, h⟩ | ⟨n, a, c', _, rfl, _, _, hu, h⟩
  · cases h with
    | ins _ _ h1 _ e1 rl => exact ⟨_, _, _, rfl, h1, e1, rl⟩
  · cases c' with
    | ins c2 ds' =>
      cases hu
      obtain ⟨dx, fs, _, h1, _, e1, rl⟩ := h
      exact ⟨a, dx, fs, rfl, h1, e1, rl⟩
    | lk d =>
      have hu' : D.ins c ds = d := hu
      subst hu'
      exact h.elim
    | _ => cases hu
theorem lookup_rel {M : Addr → Prop} {H : Hp} {f : Str} : ∀ {fs : List (Str × V)} {ds : List (Str × D)} {z : D}, fs.map (·.1) = ds.map (·.1) → RpL G M H (fs.map (·.2)) (ds.map (·.2)) → ds.lookup f = some z → ∃ v, fs.lookup f = some v ∧ Rp G M H v z
  | [], [], _, _, _, h => by cases h
  | [], _ :: _, _, e, _, _ => by simp at e
  | _ :: _, [], _, e, _, _ => by simp at e
  | (g, v) :: fs, (g', d) :: ds, z, e, r, h => by
    simp only [List.map_cons, List.cons.injEq] at e
    obtain ⟨rfl, e⟩ := e
    cases r with
    | cons r t =>
      rw [List.lookup_cons] at h ⊢
      cases q : f == g with
      | true => rw [q] at h; cases h; exact ⟨v, rfl, r⟩
      | false => rw [q] at h; exact lookup_rel e t h
theorem lookup_none {f : Str} : ∀ {fs : List (Str × V)} {ds : List (Str × D)}, fs.map (·.1) = ds.map (·.1) → ds.lookup f = none → fs.lookup f = none
  | [], _, _, _ => rfl
  | _ :: _, [], e, _ => by simp at e
  | (g, v) :: fs, (g', d) :: ds, e, h => by
    simp only [List.map_cons, List.cons.injEq] at e
    obtain ⟨rfl, e⟩ := e
    rw [List.lookup_cons] at h ⊢
    cases q : f == g with
    | true => rw [q] at h; cases h
    | false => rw [q] at h; exact lookup_none e h
theorem putF_rel {M : Addr → Prop} {H : Hp} {f : Str} {v : V} {z : D} (r : Rp G M H v z) : ∀ {fs : List (Str × V)} {ds : List (Str × D)}, fs.map (·.1) = ds.map (·.1) → RpL G M H (fs.map (·.2)) (ds.map (·.2)) → (putF f v fs).map (·.1) = (putD f z ds).map (·.1) ∧ RpL G M H ((putF f v fs).map (·.2)) ((putD f z ds).map (·.2))
  | [], [], _, _ => ⟨rfl, .one r⟩
  | [], _ :: _, e, _ => by simp at e
  | _ :: _, [], e, _ => by simp at e
  | (g, x) :: fs, (g', d) :: ds, e, rl => by
    simp only [List.map_cons, List.cons.injEq] at e
    obtain ⟨rfl, e⟩ := e
    cases rl with
    | cons r0 t =>
      unfold putF putD
      by_cases q : g = f
      · rw [if_pos q, if_pos q]
        exact ⟨by simp [e], .cons r t⟩
      · rw [if_neg q, if_neg q]
        obtain ⟨h1, h2⟩ := putF_rel r e t
        exact ⟨by simp [h1], .cons r0 h2⟩
theorem putD_len (f : Str) (z : D) : ∀ ds : List (Str × D), (putD f z ds).length ≤ ds.length + 1
  | [] => by simp [putD]
  | (g, x) :: r => by
    unfold putD
    have := putD_len f z r
    split <;> simp <;> omega

/-! ### o.f -/
def eFld (c0 f : Str) (g : SE) : SE := fun ρ C => bnd (g ρ C) fun v C1 => bn1 (see C1 v) fun d => match d with
  | .ins c fs => gd (c = c0) (bn1 (fs.lookup f) fun z => some (.dat z, C1))
  | _ => none
theorem k_fld {X : Cx} {e : Expr} {ta : TE} {f : Str} {pos : Pos} (K : PySem.W.Frag) (hK : X.K = K) (he : PE X e ta) (hb : attributeBase e f X.env (eval e X.env) = eval e X.env := by rfl) : PE X (.Attribute e f pos) (tFld K ta f) := by
  subst hK
  exact pe_fld he hb
theorem sim_fld {c0 f : Str} {ta : TE} {g : SE} (cl : Cls G.K (G.cls c0)) (na : NoAttr G.K (G.cls c0) f) (hg : SimE G ta g) : SimE G (tFld G.K ta f) (eFld c0 f g) := by
  intro φ M H C σ ρ s C' he hs e Q hQ
  obtain ⟨v, C1, h1, e⟩ := bnd_i e
  obtain ⟨d, h2, e⟩ := bn1_i e
  refine hg φ M H C σ ρ v C1 he hs h1 _ fun x H1 x1 s1 r1 => ?_
  cases d with
  | ins c ds =>
    obtain ⟨hc0, e2⟩ := gd_i e
    subst hc0
    obtain ⟨z, h3, e3⟩ := bn1_i e2
    cases e3
    obtain ⟨a, dx, fs, rfl, ha, ek, rl⟩ := s1.seeI r1 h2
    obtain ⟨u, hu, ru⟩ := lookup_rel ek rl h3
    exact ⟨a, G.cls c, dx, fs, u, rfl, ha, cl, na, hu, hQ u H1 x1 s1 ru⟩
  | _ => cases e
/-- .. of data, for walks -/
theorem simp_fld {c0 f : Str} {ta : TE} {g : SE} (cl : Cls G.K (G.cls c0)) (na : NoAttr G.K (G.cls c0) f) (hg : SimP G ta g) : SimP G (tFld G.K ta f) (fun ρ C => bnd (g ρ C) fun v C1 => match v with | .dat (.ins c fs) => gd (c = c0) (bn1 (fs.lookup f) fun z => some (.dat z, C1)) | _ => none) := by
  intro φ M H C σ ρ x C' he hs e
  obtain ⟨v, C1, h1, e⟩ := bnd_i e
  cases v with
  | cel n => cases e
  | dat d =>
    cases d with
    | ins c ds =>
      obtain ⟨hc0, e2⟩ := gd_i e
      subst hc0
      obtain ⟨z, h3, e3⟩ := bn1_i e2
      cases e3
      obtain ⟨rfl, u, ru, q0, q1⟩ := hg φ M H C σ ρ _ C' he hs h1
      cases ru with
      | ins n n' h h' ek rl =>
        obtain ⟨w, hw, rw⟩ := lookup_rel ek rl h3
        refine ⟨rfl, w, rw, fun Q q => q0 _ ⟨_, G.cls c, _, _, w, rfl, h, cl, na, hw, q⟩, fun dd H' sw Q q => q1 dd H' sw _ ⟨_, G.cls c, _, _, w, rfl, sw.keep h (fun z => z) (by intro _ _ z; cases z), cl, na, hw, q⟩⟩
    | _ => cases e

/-! ### o.f = value -/
def sFldS (c0 f : Str) (o e : SE) : SS := fun ρ C => bnd (e ρ C) fun v C1 => bn1 (datOf v) fun z => bnd (o ρ C1) fun w C2 => match w with
  | .cel n => bn1 (C2[n]?) fun d => match d with
    | .ins c ds => gd (c = c0 ∧ ds.length < 1000) (some (.nx ρ, C2.set n (.ins c (putD f z ds))))
    | _ => none
  | _ => none
theorem sim_sfld {c0 f : Str} {ta tv : TE} {o e : SE} (cl : Cls G.K (G.cls c0)) (na : NoAttr G.K (G.cls c0) f) (ho : SimE G ta o) (hv : SimE G tv e) : SimS G (sFld G.K ta tv f) (sFldS c0 f o e) := by
  intro φ M H C σ ρ r C' hE hs h Dd hD
  obtain ⟨v, C1, h1, h⟩ := bnd_i h
  obtain ⟨z, h2, h⟩ := bn1_i h
  obtain ⟨w, C2, h3, h⟩ := bnd_i h
  refine hv φ M H C σ ρ v C1 hE hs h1 _ fun y H1 x1 s1 r1 => ?_
  refine ho φ M H1 C1 σ ρ w C2 (hE.ext x1 hs.sub) s1 h3 _ fun x H2 x2 s2 r2 => ?_
  cases w with
  | dat d => cases h
  | cel n =>
    obtain ⟨d, h4, h⟩ := bn1_i h
    cases d with
    | ins c ds =>
      obtain ⟨⟨hc0, hl⟩, h5⟩ := gd_i h
      subst hc0
      cases h5
      obtain ⟨a, hφ, rfl⟩ := r2
      obtain ⟨dx, fs, nd, ha, hdx, ek, rl⟩ := s2.cel n _ a h4 hφ
      have haφ : a ∈ φ := List.mem_of_getElem? hφ
      have lf : fs.length = ds.length := by simpa using congrArg List.length ek
      cases v with
      | cel m => cases h2
      | dat z' =>
        cases h2
        have rz : Rp G M H2 y z := (r1.ext x2 hs.sub : SvR G φ M H2 y (.dat z))
        obtain ⟨p1, p2⟩ := putF_rel (f := f) rz ek rl
        refine ⟨a, G.cls c, dx, fs, rfl, ha, cl, na, by omega, ?_⟩
        have hne : dx ≠ a := fun q => nd (by rw [q]; exact s2.sub a haφ)
        have kw : Keeps M M H2 (upd H2 a (.ins (G.cls c) dx (putF f y fs))) := keepsW (s2.sub a haφ)
        have cw : CelR G M (upd H2 a (.ins (G.cls c) dx (putF f y fs))) a (.ins c (putD f z ds)) := ⟨dx, _, nd, upd_same, by rw [upd_ne hne]; exact hdx, p1, p2.keeps kw⟩
        have xx : Ext φ H (upd H2 a (.ins (G.cls c) dx (putF f y fs))) := (x1.trans x2).trans (Ext.wrote haφ)
        exact hD φ M _ _ xx.grow (hE.ext xx hs.sub) (wrote_ok s2 hφ cw)
    | _ => cases h

/-! ### o.m(..) -/
structure ClM (P : Program) (w : World) (K : PySem.W.Frag) (mg : Str → Option Value) (base : Heap) (k : Nat) (C : Addr) (m : Str) (ps : List Str) (sp : Sp) : Prop where
  ex : ∃ (f : Addr) (fd : FuncData), FnOk P w K mg base CX0 k f fd ps sp ∧ Meth K C m f ∧ Binds K fd ps []
theorem pe_cm {X : Cx} {k j : Nat} {m : Str} {C : Addr} {ps : List Str} {sp : Sp} {apos pos : Pos} {o e : Expr} {es : List Expr} {ta : TE} {t : TA} {pl : Sem Bool} (c : ClM X.prog X.w X.K X.mg X.base k C m ps sp) (cl : Cls X.K C) (hr : Room j X.A) (hk : k ≤ j) (he : PE X o ta) (ha : PA X (e :: es) t)
    (hst : starEach (e :: es) X.env = (false, eval e X.env) :: starEach es X.env := by rfl) (hpl : (backTo pos (starEach es X.env)).any (·.1) = false := by rfl)
    (ht : eval (.Call (.Attribute o m apos) (e :: es) [] pos) X.env = (do
      let ov ← eval o X.env
      standAt apos.atName
      let (f, first) ← holding [ov] (getMethod ov m pl)
      callWith pos f first (backTo pos (starEach (e :: es) X.env)) (backToKw pos (keywordEach [] X.env))) := by rfl) :
    PE X (.Call (.Attribute o m apos) (e :: es) [] pos) (tMeth C m sp [] E0 ta t) := by
  obtain ⟨f, fd, F, hm, b⟩ := c.ex
  exact pe_meth he cl hm F (hr.mono hk) b .nil pass0 ha hst hpl ht
def eMeth (c0 m : Str) (np : Nat) (F : FE) (o : SE) (a : SA) : SE := fun ρ C => bnd (o ρ C) fun v C1 => bn1 (see C1 v) fun d => match d with
  | .ins c fs => gd (c = c0 ∧ (fs.lookup m).isNone = true) (bnd (a ρ C1) fun ss C2 => gd (ss.length + 1 = np) (F (v :: ss) C2))
  | _ => none
theorem sim_meth {c0 m : Str} {np : Nat} {F : FE} {E : XK} {to : TE} {ta : TA} {o : SE} {a : SA} (ho : SimE G to o) (ha : SimA G ta a) : SimE G (tMeth (G.cls c0) m (spE G np F) [] E to ta) (eMeth c0 m np F o a) := by
  intro φ M H C σ ρ s C' hE hs e Q hQ
  obtain ⟨v, C1, h1, e⟩ := bnd_i e
  obtain ⟨d, h2, e⟩ := bn1_i e
  refine ho φ M H C σ ρ v C1 hE hs h1 _ fun x H1 x1 s1 r1 => ?_
  cases d with
  | ins c ds =>
    obtain ⟨⟨hc0, hn⟩, e2⟩ := gd_i e
    subst hc0
    obtain ⟨ss, C2, h3, e3⟩ := bnd_i e2
    obtain ⟨hl, e4⟩ := gd_i e3
    obtain ⟨p, dx, fs, rfl, hp, ek, rl⟩ := s1.seeI r1 h2
    refine ⟨p, dx, fs, rfl, hp, lookup_none ek (Option.isNone_iff_eq_none.mp hn), ?_⟩
    refine ha φ M H1 C1 σ ρ ss C2 (hE.ext x1 hs.sub) s1 h3 _ fun vs H2 x2 s2 r2 => ?_
    exact ⟨φ, M, C2, v :: ss, s, C', s2, by rw [List.append_nil]; exact .cons (r1.ext x2 hs.sub) r2, by rw [List.append_nil, List.length_cons, r2.length, hl], e4, fun u H' x3 s3 r3 => hQ u H' ((x1.trans x2).trans x3) s3 r3⟩
  | _ => cases e

/-! ### C(..) -/
structure ClI (P : Program) (w : World) (K : PySem.W.Frag) (mg : Str → Option Value) (base : Heap) (k : Nat) (x : Str) (C : Addr) (ps : List Str) (sp : Sp) : Prop where
  ex : ∃ (f : Addr) (fd : FuncData), FnOk P w K mg base CX0 k f fd ps sp ∧ Mk K C f ∧ mg x = some (.ref C) ∧ Binds K fd ps []
theorem pe_mk {X : Cx} {k j : Nat} {x : Str} {C : Addr} {ps : List Str} {sp : Sp} {p pos : Pos} {e : Expr} {es : List Expr} {t : TA} (c : ClI X.prog X.w X.K X.mg X.base k x C ps sp) (hr : Room j X.A) (hk : k + 1 ≤ j) (hg : Gl X x) (ha : PA X (e :: es) t)
    (hdb : (x == ("__debug__" : Str)) = false := by decide) (he : starEach (e :: es) X.env = (false, eval e X.env) :: starEach es X.env := by rfl) (hpl : (backTo pos (starEach es X.env)).any (·.1) = false := by rfl) :
    PE X (.Call (.Name x p) (e :: es) [] pos) (tMake C sp [] E0 t) := by
  obtain ⟨f, fd, F, M, hm, b⟩ := c.ex
  exact pe_make M F (hr.mono hk) hg hm b .nil pass0 ha hdb he hpl
def nMk (c0 : Str) (np : Nat) (F : FE) (a : SA) : SN := fun ρ C => bnd (a ρ C) fun ss C1 => gd (ss.length + 1 = np) (bnd (F (.cel C1.length :: ss) (C1 ++ [.ins c0 []])) fun s C2 => match s with
  | .dat .non => bn1 (C2[C1.length]?) fun d => some (d, C2.take C1.length)
  | _ => none)
theorem sim_mk {c0 : Str} {np : Nat} {F : FE} {E : XK} {ta : TA} {a : SA} (ha : SimA G ta a) : SimN G (tMake (G.cls c0) (spE G np F) [] E ta) (nMk c0 np F a) := by
  intro φ M H C σ ρ d C' hE hs e Q hQ
  obtain ⟨ss, C1, h1, e⟩ := bnd_i e
  obtain ⟨hl, e⟩ := gd_i e
  obtain ⟨s, C2, h2, e⟩ := bnd_i e
  refine ha φ M H C σ ρ ss C1 hE hs h1 _ fun vs H1 x1 s1 r1 => ?_
  intro x dx hx hdx hne
  have hdx' : upd H1 dx (.own x) x = none := by rw [upd_ne (fun z => hne z.symm)]; exact hx
  have sa := s1.laid (o := .own x) hdx
  have sb := sa.laidM (o := .ins (G.cls c0) dx []) hdx'
  have nMx : ¬ M x := s1.nm hx
  have nMd : ¬ (M dx ∨ dx = x) := fun z => by
    rcases z with z | z
    · exact s1.live dx z hdx
    · exact hne z
  have cx : CelR G (fun a => M a ∨ a = x) (upd (upd H1 dx (.own x)) x (.ins (G.cls c0) dx [])) x (.ins c0 []) := ⟨dx, [], nMd, upd_same, by rw [upd_ne hne]; exact upd_same, rfl, .nil⟩
  have sc := alloc_ok sb s1.sub nMx cx
  have x2 : Ext φ H1 (upd (upd H1 dx (.own x)) x (.ins (G.cls c0) dx [])) := (Ext.laid hdx).trans (Ext.laid hdx')
  have g2 : Grow φ M H1 (φ ++ [x]) (fun a => M a ∨ a = x) (upd (upd H1 dx (.own x)) x (.ins (G.cls c0) dx [])) := alloc_grow x2 hx
  have hat : (φ ++ [x])[C1.length]? = some x := by rw [← s1.len]; exact List.getElem?_concat_length
  refine ⟨φ ++ [x], _, C1 ++ [.ins c0 []], .cel C1.length :: ss, s, C2, sc, by rw [List.append_nil]; exact .cons ⟨x, hat, rfl⟩ (r1.grow g2 s1.sub), by rw [List.append_nil, List.length_cons, r1.length, hl], h2, fun v H' x3 s3 r3 => ?_⟩
  cases s with
  | cel n => cases e
  | dat ds =>
    cases ds with
    | non =>
      obtain ⟨d', h4, e⟩ := bn1_i e
      cases e
      cases r3
      refine ⟨rfl, ?_⟩
      have l3 := s3.len
      have xk : Ext φ H1 H' := ⟨fun b u hb hn => by
        have hbx : b ≠ x := fun z => by rw [z, hx] at hb; cases hb
        exact x3.keep b u (x2.keep b u hb hn) (fun z => by
          rcases List.mem_append.mp z with z | z
          · exact hn z
          · exact hbx (by simpa using z)), fun b hb => x3.live b (x2.live b hb)⟩
      have s4 : StR G φ (fun a => M a ∨ a = x) H' (C2.take C1.length) := by
        refine ⟨?_, s1.nd, fun b hb => .inl (s1.sub b hb), s3.live, fun n e b q1 q2 => ?_⟩
        · rw [List.length_take, ← l3, List.length_append, s1.len]
          simp
        · have hb : n < φ.length := (List.getElem?_eq_some_iff.mp q2).1
          rw [List.getElem?_take_of_lt (by rw [← s1.len]; exact hb)] at q1
          exact s3.cel n e b q1 (by rw [List.getElem?_append_left hb]; exact q2)
      exact hQ x H' (x1.none_ hx) (x1.trans xk) s4 (s3.cel C1.length d x h4 hat)
    | _ => cases e

/-! ### {k: v for ..} -/
def dcompL (cels : List (Nat × D)) (b : D → Env → Option Env) (tt : ST) (tk te : SE) (ρ : Env) : List D → List (Key × D) → Store → Option (List (Key × D) × Store)
  | [], acc, C => gd (stays C cels = true) (some (acc, C))
  | d :: ds, acc, C => gd (stays C cels = true) (bn1 (b d ρ) fun ρ1 => bnd (tt ρ1 C) fun k C1 =>
      if k = true then bnd (tk ρ1 C1) fun w C2 => bn1 (datOf w) fun kd => bn1 (dKey kd) fun kk => bnd (te ρ1 C2) fun v C3 => bn1 (datOf v) fun z => dcompL cels b tt tk te ρ ds (dPut acc kk z) C3
      else dcompL cels b tt tk te ρ ds acc C1)
def nDc (si : SI) (b : D → Env → Option Env) (tt : ST) (tk te : SE) (vs : List Nat) : SN := fun ρ C => bnd (si ρ C) fun src C1 => gd (src.items.length ≤ sizeLine) (bnd (dcompL src.cels b tt tk te (wipeE ρ vs) src.items [] C1) fun kvs C2 => some (.dK kvs, C2))
theorem putK_len {κ α : Type} [DecidableEq κ] (kvs : List (κ × V)) (k : κ) (v : V) : (putK kvs k v).length ≤ kvs.length + 1 := by
  unfold putK
  split <;> simp
theorem dc_by {J : It} {n : Nat} {g : TG} {tt : TT} {tk te : TE} {vs : List Nat} {σ : L2.St} {H1 : Hp} {Dn : Addr} {Qd : Hp → Prop} (Pv : Nat → Hp → Prop) (h0 : Pv 0 (upd H1 Dn (.dK [])))
    (hs : ∀ i H, i < n → Pv i H → J.go i H ∧ ∀ x H', J.yld i H x H' → g x (L2.wipe σ vs) H' fun σ2 H2 => L2.wipe σ2 vs = L2.wipe σ vs ∧ tt σ2 H2 fun b H3 =>
      if b = true then tk σ2 H3 fun y H4 => te σ2 H4 fun z H5 => ∃ kvs k, y = kV k ∧ H5 Dn = some (.dK kvs) ∧ kvs.length < sizeLine ∧ Pv (i + 1) (upd H5 Dn (.dK (putK kvs k z))) else Pv (i + 1) H3) (hd : ∀ H, Pv n H → J.stop n H ∧ Qd H) :
    ∃ W : Nat → Nat → Hp → Prop, (∃ m, W 0 m (upd H1 Dn (.dK []))) ∧ ∀ i m H, W i m H →
      (J.stop i H ∧ Qd H) ∨ (J.go i H ∧ ∃ Nx : Hp → Prop, (∀ H', Nx H' → ∃ m', m' < m ∧ W (i + 1) m' H') ∧ ∀ x H', J.yld i H x H' → g x (L2.wipe σ vs) H' fun σ2 H2 => L2.wipe σ2 vs = L2.wipe σ vs ∧ tt σ2 H2 fun b H3 =>
        if b = true then tk σ2 H3 fun y H4 => te σ2 H4 fun z H5 => ∃ kvs k, y = kV k ∧ H5 Dn = some (.dK kvs) ∧ kvs.length < sizeLine ∧ Nx (upd H5 Dn (.dK (putK kvs k z))) else Nx H3) := by
  refine ⟨fun i m H => m = n - i ∧ i ≤ n ∧ Pv i H, ⟨n, by simp, Nat.zero_le _, h0⟩, fun i m H ⟨hm, hi, p⟩ => ?_⟩
  subst hm
  by_cases hlt : i < n
  · obtain ⟨a, b⟩ := hs i H hlt p
    exact .inr ⟨a, Pv (i + 1), fun H' p' => ⟨n - (i + 1), by omega, rfl, hlt, p'⟩, b⟩
  · have e : i = n := by omega
    subst e
    exact .inl (hd H p)
theorem sim_ndc {wi : TI} {g : TG} {tt : TT} {tk te : TE} {vs ws : List Nat} {si : SI} {b : D → Env → Option Env} {ft : ST} {fk fe : SE} (hI0 : SimI G wi si) (hG : SimG G g b ws) (hw : ∀ i ∈ ws, i ∈ vs) (hT : SimT G tt ft) (hK : SimE G tk fk) (hE' : SimE G te fe) :
    SimN G (tDc wi g tt tk te vs) (nDc si b ft fk fe vs) := by
  intro φ M H C σ ρ d C' hE hs e Q hQ
  obtain ⟨src, C1, h1, e⟩ := bnd_i e
  obtain ⟨hlen, e⟩ := gd_i e
  obtain ⟨zs, C2, h2, e⟩ := bnd_i e
  cases e
  refine hI0 φ M H C σ ρ src C1 hE hs h1 _ fun J H1 x1 s1 itr => fun Dn hD => ?_
  have hDφ : Dn ∉ φ := fun z => s1.live _ (s1.sub _ z) hD
  refine dc_by (n := src.items.length) (fun i H' => ∃ Ci acc accV, StR G φ (fun a => M a ∨ a = Dn) H' Ci ∧ Grow φ M H1 φ (fun a => M a ∨ a = Dn) H' ∧ H' Dn = some (.dK accV) ∧ accV.map (·.1) = acc.map (·.1) ∧ RpL G (fun a => M a ∨ a = Dn) H' (accV.map (·.2)) (acc.map (·.2)) ∧ accV.length ≤ i ∧
      dcompL src.cels b ft fk fe (wipeE ρ vs) (src.items.drop i) acc Ci = some (zs, C')) ⟨C1, [], [], s1.laidM hD, ?_, upd_same, rfl, .nil, Nat.le_refl _, by simpa using h2⟩ (fun i H' hlt ⟨Ci, acc, accV, s', g', hDv, ek, rv, hacc, hc⟩ => ?_) (fun H' ⟨Ci, acc, accV, s', g', hDv, ek, rv, hacc, hc⟩ => ?_)
  · refine ⟨⟨[], by simp, fun _ h => by cases h⟩, fun a u e _ => by rw [upd_ne (ne_of_none e hD)]; exact e, fun a h => ?_, fun _ h => .inl h, fun a h => ?_⟩
    · by_cases z : a = Dn
      · subst z; rw [upd_same]; simp
      · rw [upd_ne z]; exact h
    · rcases h with h | h
      · exact .inl h
      · rw [h]; exact .inr hD
  · have hget : src.items[i]? = some src.items[i] := List.getElem?_eq_getElem hlt
    have hdrop : src.items.drop i = src.items[i] :: src.items.drop (i + 1) := List.drop_eq_getElem_cons hlt
    rw [hdrop] at hc
    obtain ⟨hst, hc⟩ := gd_i hc
    obtain ⟨jstop, jgo⟩ := itr φ _ H' Ci (g'.stp s1.sub) s' hst
    obtain ⟨ρ1, hb, hc⟩ := bn1_i hc
    obtain ⟨k, Cb, ht, hc⟩ := bnd_i hc
    obtain ⟨go, yl⟩ := jgo i _ hget
    refine ⟨go, fun x H3 y => ?_⟩
    obtain ⟨hst3, rx⟩ := yl x H3 y
    obtain ⟨x3, s3⟩ := Rp.step s' hst3
    have g3 := g'.trans x3.grow
    have hD3 : H3 Dn = some (.dK accV) := x3.keep _ _ hDv hDφ
    have rv3 := rv.keeps (x3.keeps s'.sub)
    have hE3 : EnvR G φ (fun a => M a ∨ a = Dn) H3 (L2.wipe σ vs) (wipeE ρ vs) := ((hE.ext x1 hs.sub).grow g3 s1.sub).wipe vs
    refine hG φ _ H3 Ci _ _ x _ ρ1 hE3 s3 rx hb _ fun σ2 hE2 l2 k2 => ⟨wipe_eq l2 fun j hj => k2 j fun z => hj (hw j z), ?_⟩
    refine hT φ _ H3 Ci σ2 ρ1 k Cb hE2 s3 ht _ fun H4 x4 s4 => ?_
    have g4 := g3.trans x4.grow
    have hD4 := x4.keep _ _ hD3 hDφ
    have rv4 := rv3.keeps (x4.keeps s3.sub)
    cases k with
    | false =>
      rw [if_neg Bool.false_ne_true] at hc ⊢
      exact ⟨Cb, acc, accV, s4, g4, hD4, ek, rv4, by omega, hc⟩
    | true =>
      rw [if_pos rfl] at hc ⊢
      obtain ⟨w, Cw, hw1, hc⟩ := bnd_i hc
      obtain ⟨kd, hkd, hc⟩ := bn1_i hc
      obtain ⟨kk, hkk, hc⟩ := bn1_i hc
      obtain ⟨v, Cv, hv, hc⟩ := bnd_i hc
      obtain ⟨z, hz1, hc⟩ := bn1_i hc
      cases w with
      | cel n => cases hkd
      | dat kd0 =>
        cases hkd
        refine hK φ _ H4 Cb σ2 ρ1 _ Cw (hE2.ext x4 s3.sub) s4 hw1 _ fun ky H5 x5 s5 r5 => ?_
        have g5 := g4.trans x5.grow
        have hD5 := x5.keep _ _ hD4 hDφ
        have rv5 := rv4.keeps (x5.keeps s4.sub)
        cases v with
        | cel n => cases hz1
        | dat z0 =>
          cases hz1
          refine hE' φ _ H5 Cw σ2 ρ1 _ Cv ((hE2.ext x4 s3.sub).ext x5 s4.sub) s5 hv _ fun y H6 x6 s6 r6 => ?_
          have g6 := g5.trans x6.grow
          have hD6 := x6.keep _ _ hD5 hDφ
          have rv6 := rv5.keeps (x6.keeps s5.sub)
          obtain ⟨p1, p2⟩ := put_rel (v := y) (z := z) r6 kk ek rv6
          have ekey := keyV (r5 : Rp G (fun a => M a ∨ a = Dn) H5 ky kd) hkk
          have kw : Keeps (fun a => M a ∨ a = Dn) (fun a => M a ∨ a = Dn) H6 (upd H6 Dn (.dK (putK accV kk y))) := keepsW (.inr rfl)
          refine ⟨accV, kk, ekey, hD6, by omega, Cv, dPut acc kk z, putK accV kk y, s6.wroteM (.inr rfl) hDφ, ?_, upd_same, p1, p2.keeps kw, ?_, hc⟩
          · refine ⟨g6.pre, fun a u e hn => ?_, fun a h => ?_, g6.up, g6.new⟩
            · rw [upd_ne (ne_of_none e hD)]; exact g6.keep a u e hn
            · by_cases q : a = Dn
              · subst q; rw [upd_same]; simp
              · rw [upd_ne q]; exact g6.live a h
          · have := putK_len (α := V) accV kk y
            omega
  · rw [List.drop_length] at hc
    obtain ⟨hst, hc⟩ := gd_i hc
    cases hc
    refine ⟨(itr φ _ H' _ (g'.stp s1.sub) s' hst).1, ?_⟩
    have xx : Ext φ H H' := x1.trans ⟨g'.keep, g'.live⟩
    exact hQ Dn H' (x1.none_ hD) xx s' ⟨accV, hDv, by omega, ek, rv⟩
end
end DX

namespace DX
open PySem PySem.Spec L2 PyProof.Rows
def topS (i : Nat) : Stmt := PySem.Challenge.pw_whichmethod_k89_whole_places_side_by_sid.main.body.getD i (.Pass ⟨0, 0, 0, 0⟩)

abbrev s2 : Stmt := topS 2
abbrev N2 : List Str := ["kinds", "above", "name", "supers", "_", "mine", "upper"]
abbrev P2 : List Str := ["kinds"]
theorem sc2 : FnScope N2 P2 (defScope s2) := ⟨rfl, rfl, rfl, by decide +kernel, rfl, by decide +kernel, by decide +kernel⟩
def m_uppers : SS := (sSeq (sNew 1 nDK)
    (sSeq (sFor (iSq (eVar 0)) (bSeq 3 (bCons (bName 2) (bCons (bName 3) (bCons (bName 4) bNil)))) (sSeq (sFrz (sSeq (sNew 5 (nDsp (eVar 2) (eC (.bl true))))
    (sFor (iSq (eVar 3)) (bName 6) (sDrop (eUpd (eVar 5) (eBin dIx (eVar 1) (eVar 6)))))))
    (sPut (eVar 5) (eVar 1) (eVar 2))))
    (sRet (eVar 1))))
def M_uppers : FE := runE 7 1 m_uppers
section
variable {P : Program} {w : World} {G : Gm} {mg : Str → Option Value} {base : Heap} {f : Addr} {fd : FuncData}
theorem ok2 (F : Fun G.K "uppers" "uppers" s2 f fd) : FnOk P w G.K mg base CX0 1 f fd P2 (spE G 1 M_uppers) := by
  have nd := sc2.nd
  refine ok_E' F sc2 rfl rfl (fun cdv A outer s H E hr => ?_)
  refine ⟨_, (pss_cons (ps_set (i := 1) nd rfl (by first | exact Or.inl rfl | exact Or.inr rfl) pe_dnewK)
    (pss_cons (ps_for PassesOwn.never rfl (k_seq G.K rfl (pv 0)) (k_gseq G.K rfl (n := 3) rfl (pgs_cons (pg_name (i := 2) nd rfl (by first | exact Or.inl rfl | exact Or.inr rfl)) (pgs_cons (pg_name (i := 3) nd rfl (by first | exact Or.inl rfl | exact Or.inr rfl)) (pgs_cons (pg_name (i := 4) nd rfl (by first | exact Or.inl rfl | exact Or.inr rfl)) pgs_nil)))) (pss_cons (ps_set (i := 5) nd rfl (by first | exact Or.inl rfl | exact Or.inr rfl) (pe_disp (pps_cons (pv 2) pe_bl pps_nil) rfl rfl (List.cons_ne_nil _ _) (Nat.le_of_ble_eq_true rfl)))
    (pss_cons (ps_for PassesOwn.never rfl (k_seq G.K rfl (pv 3)) (pg_name (i := 6) nd rfl (by first | exact Or.inl rfl | exact Or.inr rfl)) (pss_one (ps_expr (pe_bm PySem.F.plainAttrs_dict PySem.F.slot_dict_update PySem.F.type_dict_update mt_upd (pv 5) (pa_cons (pe_ix (k_ix G.K rfl (hu1 hr)) (pv 1) (pv 6) (fun _ _ => rfl)) pa_nil)))))
    (pss_one (ps_asg (pv 5) (pg_sub (pv 1) (pv 2) (set_0 (hu1 hr))))))))
    (pss_one (ps_ret (pv 1))))), ?_⟩
  exact (sim_sseq (sim_snew sim_ndk)
    (sim_sseq (sim_sfor (sim_iseq sim_var) (sim_gseq (sim_gcons (sim_gname (i := 2)) (sim_gcons (sim_gname (i := 3)) (sim_gcons (sim_gname (i := 4)) sim_gnil)))) (sim_frz2 (sim_sseq (sim_snew (sim_ndsp sim_var sim_bl))
    (sim_sfor (sim_iseq sim_var) (sim_gname (i := 6)) (sim_sdrop (sim_upd sim_var (sim_ix sim_var sim_var)))))
    (sim_sput sim_var sim_var sim_var)))
    (sim_sret sim_var)))
end
abbrev s3 : Stmt := topS 3
abbrev N3 : List Str := ["above", "one", "other", "kind", "upper"]
abbrev P3 : List Str := ["above", "one", "other"]
theorem sc3 : FnScope N3 P3 (defScope s3) := ⟨rfl, rfl, rfl, by decide +kernel, rfl, by decide +kernel, by decide +kernel⟩
def m_is_shape_below : SS := (sRet (eB dAll (aCons (eFr (nLc (iZp (aCons (eVar 1) (aCons (eVar 2) aNil))) (bSeq 2 (bCons (bName 3) (bCons (bName 4) bNil))) tYes' (eBin dIn (eVar 4) (eBin dIx (eVar 0) (eVar 3))) [3, 4])) aNil)))
def M_is_shape_below : FE := runE 5 3 m_is_shape_below
section
variable {P : Program} {w : World} {G : Gm} {mg : Str → Option Value} {base : Heap} {f : Addr} {fd : FuncData}
theorem ok3 (F : Fun G.K "is_shape_below" "is_shape_below" s3 f fd) (h_all : mg "all" = none) (h_zip : mg "zip" = none) : FnOk P w G.K mg base CX0 1 f fd P3 (spE G 3 M_is_shape_below) := by
  have nd := sc3.nd
  refine ok_E' F sc3 rfl rfl (fun cdv A outer s H E hr => ?_)
  refine ⟨_, (pss_one (ps_ret (pe_callB (k_all G.K rfl rfl) (by rfl) h_all bt_all (pa_cons (pe_lc (own := [("kind", 3), ("upper", 4)]) rfl nd (k_zip G.K rfl (by rfl) h_zip (pa_cons (pv 1) (pa_cons (pv 2) pa_nil))) (blkOk_by (own := [("kind", 3), ("upper", 4)]) (N := N3) (sc := defScope s3) (by decide +kernel)) (fun _ _ _ _ _ => (k_gseq G.K rfl (n := 2) rfl (pgs_cons (pg_name (i := 3) nd rfl (Or.inl rfl)) (pgs_cons (pg_name (i := 4) nd rfl (Or.inl rfl)) pgs_nil)))) (fun _ _ _ _ _ => pts_nil) (fun _ _ _ _ _ => (pe_cmpR (k_in G.K rfl (hu65 hr)) (pv 4) (pe_ix (k_ix G.K rfl (hu1 hr)) (pv 0) (pv 3) (fun _ _ => rfl)) rfl))) pa_nil)))), ?_⟩
  exact (sim_sret (sim_all (sim_acons (SimN.e (sim_nlc (vs := [3, 4]) (sim_izp (sim_acons sim_var (sim_acons sim_var sim_anil))) (sim_gseq (sim_gcons (sim_gname (i := 3)) (sim_gcons (sim_gname (i := 4)) sim_gnil))) (by decide) sim_tyes (sim_in sim_var (sim_ix sim_var sim_var)))) sim_anil)))
end
abbrev s4 : Stmt := topS 4
abbrev N4 : List Str := ["columns", "rows", "column", "row", "member"]
abbrev P4 : List Str := ["columns"]
theorem sc4 : FnScope N4 P4 (defScope s4) := ⟨rfl, rfl, rfl, by decide +kernel, rfl, by decide +kernel, by decide +kernel⟩
def m_every_choice : SS := (sSeq (sNew 1 (nLst (aCons (eTup aNil) aNil)))
    (sSeq (sFor (iSq (eVar 0)) (bName 2) (sNew 1 (nLc2 (iSq (eVar 1)) (bName 3) tYes' (iSq (eVar 2)) (bName 4) tYes' (eBin dAdd (eVar 3) (eTup (aCons (eVar 4) aNil))) [3, 4] [4])))
    (sRet (eVar 1))))
def M_every_choice : FN := runN 5 1 m_every_choice
section
variable {P : Program} {w : World} {G : Gm} {mg : Str → Option Value} {base : Heap} {f : Addr} {fd : FuncData}
theorem ok4 (F : Fun G.K "every_choice" "every_choice" s4 f fd) : FnOk P w G.K mg base CX0 1 f fd P4 (spN G 1 M_every_choice) := by
  have nd := sc4.nd
  refine ok_N' F sc4 rfl rfl (fun cdv A outer s H E hr => ?_)
  refine ⟨_, (pss_cons (ps_set (i := 1) nd rfl (by first | exact Or.inl rfl | exact Or.inr rfl) (pe_lst (pa_cons (pe_tup pa_nil) pa_nil)))
    (pss_cons (ps_for PassesOwn.never rfl (k_seq G.K rfl (pv 0)) (pg_name (i := 2) nd rfl (by first | exact Or.inl rfl | exact Or.inr rfl)) (pss_one (ps_setLc2 (i := 1) (own := [("row", 3), ("member", 4)]) (vs1 := [4]) rfl nd rfl rfl (sw_true rfl rfl rfl (by decide +kernel)) (k_seq G.K rfl (pv 1)) (blkOk_by (own := [("row", 3), ("member", 4)]) (N := N4) (sc := defScope s4) (by decide +kernel)) (by decide) (fun _ _ _ _ _ => (pg_name (i := 3) nd rfl (Or.inl rfl))) (fun _ _ _ _ _ => pts_nil) (fun _ _ _ _ _ => (k_seq G.K rfl (pv 2))) (fun _ _ _ _ _ => (pg_name (i := 4) nd rfl (Or.inl rfl))) (fun _ _ _ _ _ => pts_nil) (fun _ _ _ _ _ => (pe_op (k_add G.K rfl) (pv 3) (pe_tup (pa_cons (pv 4) pa_nil)))))))
    (pss_one (ps_ret (pv 1))))), ?_⟩
  exact (sim_sseq (sim_snew (sim_nlst (sim_acons (sim_tup sim_anil) sim_anil)))
    (sim_sseq (sim_sfor (sim_iseq sim_var) (sim_gname (i := 2)) (sim_snew (sim_nlc2 (vs := [3, 4]) (vs1 := [4]) (sim_iseq sim_var) (sim_gname (i := 3)) (by decide) sim_tyes (sim_iseq sim_var) (sim_gname (i := 4)) (by decide) sim_tyes (sim_add sim_var (sim_tup (sim_acons sim_var sim_anil))))))
    (sim_sret sim_var)))
end
abbrev s6 : Stmt := topS 6
abbrev N6 : List Str := ["generic", "names", "kinds", "places", "_", "row"]
abbrev P6 : List Str := ["generic"]
theorem sc6 : FnScope N6 P6 (defScope s6) := ⟨rfl, rfl, rfl, by decide +kernel, rfl, by decide +kernel, by decide +kernel⟩
def m_shapes : SS := (sSeq (sUnp (bSeq 3 (bCons (bName 2) (bCons (bName 3) (bCons (bName 4) bNil)))) (eVar 0))
    (sSeq (sSet 1 (eFr (nB dSort2 (aCons (eFr (nLc (iSq (eVar 2)) (bName 5) tYes' (eBin dIx (eVar 5) (eC (.int 0))) [5])) aNil))))
    (sRetNew (nCall 1 M_every_choice (aCons (eBin dMul (eFr (nLst (aCons (eVar 1) aNil))) (eVar 3)) aNil)))))
def M_shapes : FN := runN 6 1 m_shapes
section
variable {P : Program} {w : World} {G : Gm} {mg : Str → Option Value} {base : Heap} {f : Addr} {fd : FuncData}
theorem ok6 (F : Fun G.K "shapes" "shapes" s6 f fd) (c_4 : Cl P w G.K mg base 1 "every_choice" P4 (spN G 1 M_every_choice)) (h_sorted : mg "sorted" = none) : FnOk P w G.K mg base CX0 2 f fd P6 (spN G 1 M_shapes) := by
  have nd := sc6.nd
  refine ok_N' F sc6 rfl rfl (fun cdv A outer s H E hr => ?_)
  refine ⟨_, (pss_cons (ps_asg (pv 0) (k_gseq G.K rfl (n := 3) rfl (pgs_cons (pg_name (i := 2) nd rfl (by first | exact Or.inl rfl | exact Or.inr rfl)) (pgs_cons (pg_name (i := 3) nd rfl (by first | exact Or.inl rfl | exact Or.inr rfl)) (pgs_cons (pg_name (i := 4) nd rfl (by first | exact Or.inl rfl | exact Or.inr rfl)) pgs_nil)))))
    (pss_cons (ps_set (i := 1) nd rfl (by first | exact Or.inl rfl | exact Or.inr rfl) (pe_callB (k_sort2 G.K rfl rfl (hu64 hr)) (by rfl) h_sorted bt_sorted (pa_cons (pe_lc (own := [("row", 5)]) rfl nd (k_seq G.K rfl (pv 2)) (blkOk_by (own := [("row", 5)]) (N := N6) (sc := defScope s6) (by decide +kernel)) (fun _ _ _ _ _ => (pg_name (i := 5) nd rfl (Or.inl rfl))) (fun _ _ _ _ _ => pts_nil) (fun _ _ _ _ _ => (pe_ix (k_ix G.K rfl (hu1 hr)) (pv 5) pe_int (fun _ _ => rfl)))) pa_nil)))
    (pss_one (ps_ret (pe_cl c_4 hr (by decide) (by rfl) (pa_cons (pe_op op_mul0 (pe_lst (pa_cons (pv 1) pa_nil)) (pv 3)) pa_nil)))))), ?_⟩
  exact (sim_sseq (sim_sunp sim_var (sim_gseq (sim_gcons (sim_gname (i := 2)) (sim_gcons (sim_gname (i := 3)) (sim_gcons (sim_gname (i := 4)) sim_gnil)))))
    (sim_sseq (sim_sset (SimN.e (sim_nsort2 (sim_acons (SimN.e (sim_nlc (vs := [5]) (sim_iseq sim_var) (sim_gname (i := 5)) (by decide) sim_tyes (sim_ix sim_var sim_int))) sim_anil))))
    (sim_sretnew (sim_ncall (sim_acons (sim_mul (SimN.e (sim_nlst (sim_acons sim_var sim_anil))) sim_var) sim_anil)))))
end
abbrev s8x3 : Stmt := inClass (topS 8) 3
abbrev N8x3 : List Str := ["self", "call", "label", "shape"]
abbrev P8x3 : List Str := ["self", "call"]
theorem sc8x3 : FnScope N8x3 P8x3 (defScope s8x3) := ⟨rfl, rfl, rfl, by decide +kernel, rfl, by decide +kernel, by decide +kernel⟩
def m_Table_fitting : SS := (sRet (eFr (nLc (iSq (eFld "Table" "methods" (eVar 0))) (bSeq 2 (bCons (bName 2) (bCons (bName 3) bNil))) (tTru (eCall 3 M_is_shape_below (aCons (eFld "Table" "above" (eVar 0)) (aCons (eVar 1) (aCons (eVar 3) aNil))))) (eVar 2) [2, 3])))
def M_Table_fitting : FE := runE 4 2 m_Table_fitting
section
variable {P : Program} {w : World} {G : Gm} {mg : Str → Option Value} {base : Heap} {f : Addr} {fd : FuncData}
theorem ok8x3 (F : Fun G.K "fitting" "Table.fitting" s8x3 f fd) (c_3 : Cl P w G.K mg base 1 "is_shape_below" P3 (spE G 3 M_is_shape_below)) (cl_Table : Cls G.K (G.cls "Table")) (na_Table_above : NoAttr G.K (G.cls "Table") "above") (na_Table_methods : NoAttr G.K (G.cls "Table") "methods") : FnOk P w G.K mg base CX0 2 f fd P8x3 (spE G 2 M_Table_fitting) := by
  have nd := sc8x3.nd
  refine ok_E' F sc8x3 rfl rfl (fun cdv A outer s H E hr => ?_)
  refine ⟨_, (pss_one (ps_ret (pe_lc (own := [("label", 2), ("shape", 3)]) rfl nd (k_seq G.K rfl (k_fld G.K rfl (pv 0))) (blkOk_by (own := [("label", 2), ("shape", 3)]) (N := N8x3) (sc := defScope s8x3) (by decide +kernel)) (fun _ _ _ _ _ => (k_gseq G.K rfl (n := 2) rfl (pgs_cons (pg_name (i := 2) nd rfl (Or.inl rfl)) (pgs_cons (pg_name (i := 3) nd rfl (Or.inl rfl)) pgs_nil)))) (fun _ _ _ _ _ => (pts_one (k_truth G.K rfl (pe_cl c_3 hr (by decide) (by rfl) (pa_cons (k_fld G.K rfl (pv 0)) (pa_cons (pv 1) (pa_cons (pv 3) pa_nil)))) (fun _ => rfl)))) (fun _ _ _ _ _ => (pv 2))))), ?_⟩
  exact (sim_sret (SimN.e (sim_nlc (vs := [2, 3]) (sim_iseq (sim_fld (c0 := "Table") cl_Table na_Table_methods sim_var)) (sim_gseq (sim_gcons (sim_gname (i := 2)) (sim_gcons (sim_gname (i := 3)) sim_gnil))) (by decide) (sim_tTru (sim_call (sim_acons (sim_fld (c0 := "Table") cl_Table na_Table_above sim_var) (sim_acons sim_var (sim_acons sim_var sim_anil))))) sim_var)))
end
abbrev s8x1 : Stmt := inClass (topS 8) 1
abbrev N8x1 : List Str := ["self", "shape", "label", "other"]
abbrev P8x1 : List Str := ["self", "shape"]
theorem sc8x1 : FnScope N8x1 P8x1 (defScope s8x1) := ⟨rfl, rfl, rfl, by decide +kernel, rfl, by decide +kernel, by decide +kernel⟩
def m_Table__nearer_than : SS := (sRet (eFr (nLc (iSq (eFld "Table" "methods" (eVar 0))) (bSeq 2 (bCons (bName 2) (bCons (bName 3) bNil))) (tAnd' (tB' (eBin dNe (eVar 3) (eVar 1))) (tTru (eCall 3 M_is_shape_below (aCons (eFld "Table" "above" (eVar 0)) (aCons (eVar 3) (aCons (eVar 1) aNil)))))) (eVar 2) [2, 3])))
def M_Table__nearer_than : FE := runE 4 2 m_Table__nearer_than
section
variable {P : Program} {w : World} {G : Gm} {mg : Str → Option Value} {base : Heap} {f : Addr} {fd : FuncData}
theorem ok8x1 (F : Fun G.K "_nearer_than" "Table._nearer_than" s8x1 f fd) (c_3 : Cl P w G.K mg base 1 "is_shape_below" P3 (spE G 3 M_is_shape_below)) (cl_Table : Cls G.K (G.cls "Table")) (na_Table_above : NoAttr G.K (G.cls "Table") "above") (na_Table_methods : NoAttr G.K (G.cls "Table") "methods") : FnOk P w G.K mg base CX0 2 f fd P8x1 (spE G 2 M_Table__nearer_than) := by
  have nd := sc8x1.nd
  refine ok_E' F sc8x1 rfl rfl (fun cdv A outer s H E hr => ?_)
  refine ⟨_, (pss_one (ps_ret (pe_lc (own := [("label", 2), ("other", 3)]) rfl nd (k_seq G.K rfl (k_fld G.K rfl (pv 0))) (blkOk_by (own := [("label", 2), ("other", 3)]) (N := N8x1) (sc := defScope s8x1) (by decide +kernel)) (fun _ _ _ _ _ => (k_gseq G.K rfl (n := 2) rfl (pgs_cons (pg_name (i := 2) nd rfl (Or.inl rfl)) (pgs_cons (pg_name (i := 3) nd rfl (Or.inl rfl)) pgs_nil)))) (fun _ _ _ _ _ => (pts_one (PW.pt (pw_and (pt_cmpR (k_ne G.K rfl (hu64 hr)) (pv 3) (pv 1) (nomark _)) (pw_and1 (k_truth G.K rfl (pe_cl c_3 hr (by decide) (by rfl) (pa_cons (k_fld G.K rfl (pv 0)) (pa_cons (pv 3) (pa_cons (pv 1) pa_nil)))) (fun _ => rfl))))))) (fun _ _ _ _ _ => (pv 2))))), ?_⟩
  exact (sim_sret (SimN.e (sim_nlc (vs := [2, 3]) (sim_iseq (sim_fld (c0 := "Table") cl_Table na_Table_methods sim_var)) (sim_gseq (sim_gcons (sim_gname (i := 2)) (sim_gcons (sim_gname (i := 3)) sim_gnil))) (by decide) (sim_tAnd (sim_tTest (sim_ne sim_var sim_var)) (sim_tTru (sim_call (sim_acons (sim_fld (c0 := "Table") cl_Table na_Table_above sim_var) (sim_acons sim_var (sim_acons sim_var sim_anil)))))) sim_var)))
end
abbrev s8x0 : Stmt := inClass (topS 8) 0
abbrev N8x0 : List Str := ["self", "generic", "kinds", "_", "methods", "label", "shape"]
abbrev P8x0 : List Str := ["self", "generic"]
theorem sc8x0 : FnScope N8x0 P8x0 (defScope s8x0) := ⟨rfl, rfl, rfl, by decide +kernel, rfl, by decide +kernel, by decide +kernel⟩
def m_Table___init__ : SS := (sSeq (sUnp (bSeq 3 (bCons (bName 2) (bCons (bName 3) (bCons (bName 4) bNil)))) (eVar 1))
    (sSeq (sFldS "Table" "kinds" (eVar 0) (eVar 2))
    (sSeq (sFldS "Table" "above" (eVar 0) (eCall 1 M_uppers (aCons (eVar 2) aNil)))
    (sSeq (sFldS "Table" "methods" (eVar 0) (eFr (nLc (iSq (eVar 4)) (bSeq 2 (bCons (bName 5) (bCons (bName 6) bNil))) tYes' (eTup (aCons (eVar 5) (aCons (eB dTuple (aCons (eVar 6) aNil)) aNil))) [5, 6])))
    (sFldS "Table" "nearer" (eVar 0) (eFr (nDc (iSq (eFld "Table" "methods" (eVar 0))) (bSeq 2 (bCons (bName 5) (bCons (bName 6) bNil))) tYes' (eVar 5) (eMeth "Table" "_nearer_than" 2 M_Table__nearer_than (eVar 0) (aCons (eVar 6) aNil)) [5, 6])))))))
def M_Table___init__ : FE := runE 7 2 m_Table___init__
section
variable {P : Program} {w : World} {G : Gm} {mg : Str → Option Value} {base : Heap} {f : Addr} {fd : FuncData}
theorem ok8x0 (F : Fun G.K "__init__" "Table.__init__" s8x0 f fd) (cm_8x1 : ClM P w G.K mg base 2 (G.cls "Table") "_nearer_than" P8x1 (spE G 2 M_Table__nearer_than)) (c_2 : Cl P w G.K mg base 1 "uppers" P2 (spE G 1 M_uppers)) (h_tuple : mg "tuple" = none) (cl_Table : Cls G.K (G.cls "Table")) (na_Table_above : NoAttr G.K (G.cls "Table") "above") (na_Table_kinds : NoAttr G.K (G.cls "Table") "kinds") (na_Table_methods : NoAttr G.K (G.cls "Table") "methods") (na_Table_nearer : NoAttr G.K (G.cls "Table") "nearer") : FnOk P w G.K mg base CX0 3 f fd P8x0 (spE G 2 M_Table___init__) := by
  have nd := sc8x0.nd
  refine ok_E' F sc8x0 rfl rfl (fun cdv A outer s H E hr => ?_)
  refine ⟨_, (pss_cons (ps_asg (pv 1) (k_gseq G.K rfl (n := 3) rfl (pgs_cons (pg_name (i := 2) nd rfl (by first | exact Or.inl rfl | exact Or.inr rfl)) (pgs_cons (pg_name (i := 3) nd rfl (by first | exact Or.inl rfl | exact Or.inr rfl)) (pgs_cons (pg_name (i := 4) nd rfl (by first | exact Or.inl rfl | exact Or.inr rfl)) pgs_nil)))))
    (pss_cons (ps_fld (pv 0) (pv 2) rfl)
    (pss_cons (ps_fld (pv 0) (pe_cl c_2 hr (by decide) (by rfl) (pa_cons (pv 2) pa_nil)) rfl)
    (pss_cons (ps_fld (pv 0) (pe_lc (own := [("label", 5), ("shape", 6)]) rfl nd (k_seq G.K rfl (pv 4)) (blkOk_by (own := [("label", 5), ("shape", 6)]) (N := N8x0) (sc := defScope s8x0) (by decide +kernel)) (fun _ _ _ _ _ => (k_gseq G.K rfl (n := 2) rfl (pgs_cons (pg_name (i := 5) nd rfl (Or.inl rfl)) (pgs_cons (pg_name (i := 6) nd rfl (Or.inl rfl)) pgs_nil)))) (fun _ _ _ _ _ => pts_nil) (fun _ _ _ _ _ => (pe_tup (pa_cons (pv 5) (pa_cons (pe_callTy (k_tuple G.K rfl) (by rfl) h_tuple bt_tuple (pa_cons (pv 6) pa_nil)) pa_nil))))) rfl)
    (pss_one (ps_fld (pv 0) (pe_dc (own := [("label", 5), ("shape", 6)]) rfl nd (k_seq G.K rfl (k_fld G.K rfl (pv 0))) (blkOk_by (own := [("label", 5), ("shape", 6)]) (N := N8x0) (sc := defScope s8x0) (by decide +kernel)) (fun _ _ _ _ _ => (k_gseq G.K rfl (n := 2) rfl (pgs_cons (pg_name (i := 5) nd rfl (Or.inl rfl)) (pgs_cons (pg_name (i := 6) nd rfl (Or.inl rfl)) pgs_nil)))) (fun _ _ _ _ _ => pts_nil) (fun _ _ _ _ _ => (pv 5)) (fun _ _ _ _ _ => (pe_cm cm_8x1 cl_Table hr (by decide) (pv 0) (pa_cons (pv 6) pa_nil)))) rfl)))))), ?_⟩
  exact (sim_sseq (sim_sunp sim_var (sim_gseq (sim_gcons (sim_gname (i := 2)) (sim_gcons (sim_gname (i := 3)) (sim_gcons (sim_gname (i := 4)) sim_gnil)))))
    (sim_sseq (sim_sfld (c0 := "Table") cl_Table na_Table_kinds sim_var sim_var)
    (sim_sseq (sim_sfld (c0 := "Table") cl_Table na_Table_above sim_var (sim_call (sim_acons sim_var sim_anil)))
    (sim_sseq (sim_sfld (c0 := "Table") cl_Table na_Table_methods sim_var (SimN.e (sim_nlc (vs := [5, 6]) (sim_iseq sim_var) (sim_gseq (sim_gcons (sim_gname (i := 5)) (sim_gcons (sim_gname (i := 6)) sim_gnil))) (by decide) sim_tyes (sim_tup (sim_acons sim_var (sim_acons (sim_tuple (sim_acons sim_var sim_anil)) sim_anil))))))
    (sim_sfld (c0 := "Table") cl_Table na_Table_nearer sim_var (SimN.e (sim_ndc (vs := [5, 6]) (sim_iseq (sim_fld (c0 := "Table") cl_Table na_Table_methods sim_var)) (sim_gseq (sim_gcons (sim_gname (i := 5)) (sim_gcons (sim_gname (i := 6)) sim_gnil))) (by decide) sim_tyes sim_var (sim_meth (c0 := "Table") sim_var (sim_acons sim_var sim_anil)))))))))
end
abbrev s10 : Stmt := topS 10
abbrev N10 : List Str := ["generic", "call"]
abbrev P10 : List Str := ["generic", "call"]
theorem sc10 : FnScope N10 P10 (defScope s10) := ⟨rfl, rfl, rfl, by decide +kernel, rfl, by decide +kernel, by decide +kernel⟩
def m_fitting : SS := (sRet (eMeth "Table" "fitting" 2 M_Table_fitting (eFr (nMk "Table" 2 M_Table___init__ (aCons (eVar 0) aNil))) (aCons (eVar 1) aNil)))
def M_fitting : FE := runE 2 2 m_fitting
section
variable {P : Program} {w : World} {G : Gm} {mg : Str → Option Value} {base : Heap} {f : Addr} {fd : FuncData}
theorem ok10 (F : Fun G.K "fitting" "fitting" s10 f fd) (cm_8x3 : ClM P w G.K mg base 2 (G.cls "Table") "fitting" P8x3 (spE G 2 M_Table_fitting)) (ci_8x0 : ClI P w G.K mg base 3 "Table" (G.cls "Table") P8x0 (spE G 2 M_Table___init__)) (cl_Table : Cls G.K (G.cls "Table")) : FnOk P w G.K mg base CX0 5 f fd P10 (spE G 2 M_fitting) := by
  have nd := sc10.nd
  refine ok_E' F sc10 rfl rfl (fun cdv A outer s H E hr => ?_)
  refine ⟨_, (pss_one (ps_ret (pe_cm cm_8x3 cl_Table hr (by decide) (pe_mk ci_8x0 hr (by decide) (by rfl) (pa_cons (pv 0) pa_nil)) (pa_cons (pv 1) pa_nil)))), ?_⟩
  exact (sim_sret (sim_meth (c0 := "Table") (SimN.e (sim_mk (c0 := "Table") (sim_acons sim_var sim_anil))) (sim_acons sim_var sim_anil)))
end
abbrev s8x4 : Stmt := inClass (topS 8) 4
abbrev N8x4 : List Str := ["self", "call", "fits", "label", "lower"]
abbrev P8x4 : List Str := ["self", "call"]
theorem sc8x4 : FnScope N8x4 P8x4 (defScope s8x4) := ⟨rfl, rfl, rfl, by decide +kernel, rfl, by decide +kernel, by decide +kernel⟩
def m_Table_nearest : SS := (sSeq (sSet 2 (eMeth "Table" "fitting" 2 M_Table_fitting (eVar 0) (aCons (eVar 1) aNil)))
    (sRet (eFr (nLc (iSq (eVar 2)) (bName 3) (tNot' (tTru (eB dAny (aCons (eFr (nLc (iSq (eBin dIx (eFld "Table" "nearer" (eVar 0)) (eVar 3))) (bName 4) tYes' (eBin dIn (eVar 4) (eVar 2)) [4])) aNil)))) (eVar 3) [3]))))
def M_Table_nearest : FE := runE 5 2 m_Table_nearest
section
variable {P : Program} {w : World} {G : Gm} {mg : Str → Option Value} {base : Heap} {f : Addr} {fd : FuncData}
theorem ok8x4 (F : Fun G.K "nearest" "Table.nearest" s8x4 f fd) (cm_8x3 : ClM P w G.K mg base 2 (G.cls "Table") "fitting" P8x3 (spE G 2 M_Table_fitting)) (h_any : mg "any" = none) (cl_Table : Cls G.K (G.cls "Table")) (na_Table_nearer : NoAttr G.K (G.cls "Table") "nearer") : FnOk P w G.K mg base CX0 3 f fd P8x4 (spE G 2 M_Table_nearest) := by
  have nd := sc8x4.nd
  refine ok_E' F sc8x4 rfl rfl (fun cdv A outer s H E hr => ?_)
  refine ⟨_, (pss_cons (ps_set (i := 2) nd rfl (by first | exact Or.inl rfl | exact Or.inr rfl) (pe_cm cm_8x3 cl_Table hr (by decide) (pv 0) (pa_cons (pv 1) pa_nil)))
    (pss_one (ps_ret (pe_lc (own := [("label", 3)]) rfl nd (k_seq G.K rfl (pv 2)) (blkOk_by (own := [("label", 3)]) (N := N8x4) (sc := defScope s8x4) (by decide +kernel)) (fun _ _ _ _ _ => (pg_name (i := 3) nd rfl (Or.inl rfl))) (fun _ _ _ _ _ => (pts_one (pt_not (k_truth G.K rfl (pe_callB (k_any G.K rfl rfl) (by rfl) h_any bt_any (pa_cons (pe_lc (own := [("lower", 4)]) rfl nd (k_seq G.K rfl (pe_ix (k_ix G.K rfl (hu1 hr)) (k_fld G.K rfl (pv 0)) (pv 3) (fun _ _ => rfl))) (blkOk_by (own := [("lower", 4)]) (N := N8x4) (by rfl)) (fun _ _ _ _ _ => (pg_name (i := 4) nd rfl (Or.inl rfl))) (fun _ _ _ _ _ => pts_nil) (fun _ _ _ _ _ => (pe_cmpR (k_in G.K rfl (hu65 hr)) (pv 4) (pv 2) rfl))) pa_nil)) (fun _ => rfl))))) (fun _ _ _ _ _ => (pv 3)))))), ?_⟩
  exact (sim_sseq (sim_sset (sim_meth (c0 := "Table") sim_var (sim_acons sim_var sim_anil)))
    (sim_sret (SimN.e (sim_nlc (vs := [3]) (sim_iseq sim_var) (sim_gname (i := 3)) (by decide) (sim_tNot (sim_tTru (sim_any (sim_acons (SimN.e (sim_nlc (vs := [4]) (sim_iseq (sim_ix (sim_fld (c0 := "Table") cl_Table na_Table_nearer sim_var) sim_var)) (sim_gname (i := 4)) (by decide) sim_tyes (sim_in sim_var sim_var))) sim_anil)))) sim_var))))
end
abbrev s11 : Stmt := topS 11
abbrev N11 : List Str := ["generic", "call"]
abbrev P11 : List Str := ["generic", "call"]
theorem sc11 : FnScope N11 P11 (defScope s11) := ⟨rfl, rfl, rfl, by decide +kernel, rfl, by decide +kernel, by decide +kernel⟩
def m_nearest : SS := (sRet (eMeth "Table" "nearest" 2 M_Table_nearest (eFr (nMk "Table" 2 M_Table___init__ (aCons (eVar 0) aNil))) (aCons (eVar 1) aNil)))
def M_nearest : FE := runE 2 2 m_nearest
section
variable {P : Program} {w : World} {G : Gm} {mg : Str → Option Value} {base : Heap} {f : Addr} {fd : FuncData}
theorem ok11 (F : Fun G.K "nearest" "nearest" s11 f fd) (cm_8x4 : ClM P w G.K mg base 3 (G.cls "Table") "nearest" P8x4 (spE G 2 M_Table_nearest)) (ci_8x0 : ClI P w G.K mg base 3 "Table" (G.cls "Table") P8x0 (spE G 2 M_Table___init__)) (cl_Table : Cls G.K (G.cls "Table")) : FnOk P w G.K mg base CX0 5 f fd P11 (spE G 2 M_nearest) := by
  have nd := sc11.nd
  refine ok_E' F sc11 rfl rfl (fun cdv A outer s H E hr => ?_)
  refine ⟨_, (pss_one (ps_ret (pe_cm cm_8x4 cl_Table hr (by decide) (pe_mk ci_8x0 hr (by decide) (by rfl) (pa_cons (pv 0) pa_nil)) (pa_cons (pv 1) pa_nil)))), ?_⟩
  exact (sim_sret (sim_meth (c0 := "Table") (SimN.e (sim_mk (c0 := "Table") (sim_acons sim_var sim_anil))) (sim_acons sim_var sim_anil)))
end
abbrev s8x5 : Stmt := inClass (topS 8) 5
abbrev N8x5 : List Str := ["self", "call", "labels"]
abbrev P8x5 : List Str := ["self", "call"]
theorem sc8x5 : FnScope N8x5 P8x5 (defScope s8x5) := ⟨rfl, rfl, rfl, by decide +kernel, rfl, by decide +kernel, by decide +kernel⟩
def m_Table_chosen : SS := (sSeq (sSet 2 (eMeth "Table" "nearest" 2 M_Table_nearest (eVar 0) (aCons (eVar 1) aNil)))
    (sSeq (sIf (tNot' (tTru (eVar 2))) (sRet (eC (.str "none"))) sNil)
    (sSeq (sIf (tB' (eBin dGt (eB dLen (aCons (eVar 2) aNil)) (eC (.int 1)))) (sRet (eC (.str "torn"))) sNil)
    (sRet (eBin dIx (eVar 2) (eC (.int 0)))))))
def M_Table_chosen : FE := runE 3 2 m_Table_chosen
section
variable {P : Program} {w : World} {G : Gm} {mg : Str → Option Value} {base : Heap} {f : Addr} {fd : FuncData}
theorem ok8x5 (F : Fun G.K "chosen" "Table.chosen" s8x5 f fd) (cm_8x4 : ClM P w G.K mg base 3 (G.cls "Table") "nearest" P8x4 (spE G 2 M_Table_nearest)) (h_len : mg "len" = none) (cl_Table : Cls G.K (G.cls "Table")) : FnOk P w G.K mg base CX0 4 f fd P8x5 (spE G 2 M_Table_chosen) := by
  have nd := sc8x5.nd
  refine ok_E' F sc8x5 rfl rfl (fun cdv A outer s H E hr => ?_)
  refine ⟨_, (pss_cons (ps_set (i := 2) nd rfl (by first | exact Or.inl rfl | exact Or.inr rfl) (pe_cm cm_8x4 cl_Table hr (by decide) (pv 0) (pa_cons (pv 1) pa_nil)))
    (pss_cons (ps_if (pt_not (k_truth G.K rfl (pv 2) (fun _ => rfl))) (pss_one (ps_ret pe_str)) pss_nil)
    (pss_cons (ps_if (pt_cmpR op_gt (pe_callB (k_len G.K rfl) (by rfl) h_len bt_len (pa_cons (pv 2) pa_nil)) pe_int (nomark _)) (pss_one (ps_ret pe_str)) pss_nil)
    (pss_one (ps_ret (pe_ix (k_ix G.K rfl (hu1 hr)) (pv 2) pe_int (fun _ _ => rfl))))))), ?_⟩
  exact (sim_sseq (sim_sset (sim_meth (c0 := "Table") sim_var (sim_acons sim_var sim_anil)))
    (sim_sseq (sim_sif (sim_tNot (sim_tTru sim_var)) (sim_sret sim_str) sim_snil)
    (sim_sseq (sim_sif (sim_tTest (sim_gt (sim_len (sim_acons sim_var sim_anil)) sim_int)) (sim_sret sim_str) sim_snil)
    (sim_sret (sim_ix sim_var sim_int)))))
end
abbrev s12 : Stmt := topS 12
abbrev N12 : List Str := ["generic", "call"]
abbrev P12 : List Str := ["generic", "call"]
theorem sc12 : FnScope N12 P12 (defScope s12) := ⟨rfl, rfl, rfl, by decide +kernel, rfl, by decide +kernel, by decide +kernel⟩
def m_chosen : SS := (sRet (eMeth "Table" "chosen" 2 M_Table_chosen (eFr (nMk "Table" 2 M_Table___init__ (aCons (eVar 0) aNil))) (aCons (eVar 1) aNil)))
def M_chosen : FE := runE 2 2 m_chosen
section
variable {P : Program} {w : World} {G : Gm} {mg : Str → Option Value} {base : Heap} {f : Addr} {fd : FuncData}
theorem ok12 (F : Fun G.K "chosen" "chosen" s12 f fd) (cm_8x5 : ClM P w G.K mg base 4 (G.cls "Table") "chosen" P8x5 (spE G 2 M_Table_chosen)) (ci_8x0 : ClI P w G.K mg base 3 "Table" (G.cls "Table") P8x0 (spE G 2 M_Table___init__)) (cl_Table : Cls G.K (G.cls "Table")) : FnOk P w G.K mg base CX0 5 f fd P12 (spE G 2 M_chosen) := by
  have nd := sc12.nd
  refine ok_E' F sc12 rfl rfl (fun cdv A outer s H E hr => ?_)
  refine ⟨_, (pss_one (ps_ret (pe_cm cm_8x5 cl_Table hr (by decide) (pe_mk ci_8x0 hr (by decide) (by rfl) (pa_cons (pv 0) pa_nil)) (pa_cons (pv 1) pa_nil)))), ?_⟩
  exact (sim_sret (sim_meth (c0 := "Table") (SimN.e (sim_mk (c0 := "Table") (sim_acons sim_var sim_anil))) (sim_acons sim_var sim_anil)))
end
abbrev s14 : Stmt := topS 14
abbrev N14 : List Str := ["table", "generic", "call"]
abbrev P14 : List Str := ["table", "generic"]
theorem sc14 : FnScope N14 P14 (defScope s14) := ⟨rfl, rfl, rfl, by decide +kernel, rfl, by decide +kernel, by decide +kernel⟩
def m__torn_calls : SS := (sRet (eFr (nLc (iSq (eFr (nCall 1 M_shapes (aCons (eVar 1) aNil)))) (bName 2) (tB' (eBin dGt (eB dLen (aCons (eMeth "Table" "nearest" 2 M_Table_nearest (eVar 0) (aCons (eVar 2) aNil)) aNil)) (eC (.int 1)))) (eVar 2) [2])))
def M__torn_calls : FE := runE 3 2 m__torn_calls
section
variable {P : Program} {w : World} {G : Gm} {mg : Str → Option Value} {base : Heap} {f : Addr} {fd : FuncData}
theorem ok14 (F : Fun G.K "_torn_calls" "_torn_calls" s14 f fd) (cm_8x4 : ClM P w G.K mg base 3 (G.cls "Table") "nearest" P8x4 (spE G 2 M_Table_nearest)) (c_6 : Cl P w G.K mg base 2 "shapes" P6 (spN G 1 M_shapes)) (h_len : mg "len" = none) (cl_Table : Cls G.K (G.cls "Table")) : FnOk P w G.K mg base CX0 4 f fd P14 (spE G 2 M__torn_calls) := by
  have nd := sc14.nd
  refine ok_E' F sc14 rfl rfl (fun cdv A outer s H E hr => ?_)
  refine ⟨_, (pss_one (ps_ret (pe_lc (own := [("call", 2)]) rfl nd (k_seq G.K rfl (pe_cl c_6 hr (by decide) (by rfl) (pa_cons (pv 1) pa_nil))) (blkOk_by (own := [("call", 2)]) (N := N14) (sc := defScope s14) (by decide +kernel)) (fun _ _ _ _ _ => (pg_name (i := 2) nd rfl (Or.inl rfl))) (fun _ _ _ _ _ => (pts_one (pt_cmpR op_gt (pe_callB (k_len G.K rfl) (by rfl) h_len bt_len (pa_cons (pe_cm cm_8x4 cl_Table hr (by decide) (pv 0) (pa_cons (pv 2) pa_nil)) pa_nil)) pe_int (nomark _)))) (fun _ _ _ _ _ => (pv 2))))), ?_⟩
  exact (sim_sret (SimN.e (sim_nlc (vs := [2]) (sim_iseq (SimN.e (sim_ncall (sim_acons sim_var sim_anil)))) (sim_gname (i := 2)) (by decide) (sim_tTest (sim_gt (sim_len (sim_acons (sim_meth (c0 := "Table") sim_var (sim_acons sim_var sim_anil)) sim_anil)) sim_int)) sim_var)))
end
abbrev s13 : Stmt := topS 13
abbrev N13 : List Str := ["generic"]
abbrev P13 : List Str := ["generic"]
theorem sc13 : FnScope N13 P13 (defScope s13) := ⟨rfl, rfl, rfl, by decide +kernel, rfl, by decide +kernel, by decide +kernel⟩
def m_torn : SS := (sRet (eCall 2 M__torn_calls (aCons (eFr (nMk "Table" 2 M_Table___init__ (aCons (eVar 0) aNil))) (aCons (eVar 0) aNil))))
def M_torn : FE := runE 1 1 m_torn
section
variable {P : Program} {w : World} {G : Gm} {mg : Str → Option Value} {base : Heap} {f : Addr} {fd : FuncData}
theorem ok13 (F : Fun G.K "torn" "torn" s13 f fd) (c_14 : Cl P w G.K mg base 4 "_torn_calls" P14 (spE G 2 M__torn_calls)) (ci_8x0 : ClI P w G.K mg base 3 "Table" (G.cls "Table") P8x0 (spE G 2 M_Table___init__)) (cl_Table : Cls G.K (G.cls "Table")) : FnOk P w G.K mg base CX0 5 f fd P13 (spE G 1 M_torn) := by
  have nd := sc13.nd
  refine ok_E' F sc13 rfl rfl (fun cdv A outer s H E hr => ?_)
  refine ⟨_, (pss_one (ps_ret (pe_cl c_14 hr (by decide) (by rfl) (pa_cons (pe_mk ci_8x0 hr (by decide) (by rfl) (pa_cons (pv 0) pa_nil)) (pa_cons (pv 0) pa_nil))))), ?_⟩
  exact (sim_sret (sim_call (sim_acons (SimN.e (sim_mk (c0 := "Table") (sim_acons sim_var sim_anil))) (sim_acons sim_var sim_anil))))
end
abbrev s16 : Stmt := topS 16
abbrev N16 : List Str := ["_law_script", "_law_k", "_law_cell"]
abbrev P16 : List Str := ["_law_script", "_law_k"]
theorem sc16 : FnScope N16 P16 (defScope s16) := ⟨rfl, rfl, rfl, by decide +kernel, rfl, by decide +kernel, by decide +kernel⟩
def m_Lbox : SS := (sSeq (sSet 2 (eIf (tB' (eBin dLt (eVar 1) (eB dLen (aCons (eVar 0) aNil)))) (eBin dIx (eVar 0) (eVar 1)) (eC (.int 0))))
    (sRetNew (nLst (aCons (eBin dMul (eB dAbs (aCons (eVar 2) aNil)) (eB dInt (aCons (eBin dGe (eB dAbs (aCons (eVar 2) aNil)) (eBin dPow (eC (.int 10)) (eC (.int 18)))) aNil))) (aCons (eBin dAdd (eBin dAdd (eBin dMod (eB dInt (aCons (eVar 2) aNil)) (eC (.int 2305843009213693951))) (eBin dMul (eC (.int 39373)) (eVar 1))) (eC (.int 103))) (aCons (eC (.int 0)) aNil))))))
def M_Lbox : FN := runN 3 2 m_Lbox
section
variable {P : Program} {w : World} {G : Gm} {mg : Str → Option Value} {base : Heap} {f : Addr} {fd : FuncData}
theorem ok16 (F : Fun G.K "_law_box" "_law_box" s16 f fd) (h_abs : mg "abs" = none) (h_int : mg "int" = none) (h_len : mg "len" = none) : FnOk P w G.K mg base CX0 1 f fd P16 (spN G 2 M_Lbox) := by
  have nd := sc16.nd
  refine ok_N' F sc16 rfl rfl (fun cdv A outer s H E hr => ?_)
  refine ⟨_, (pss_cons (ps_set (i := 2) nd rfl (by first | exact Or.inl rfl | exact Or.inr rfl) (pe_ifExp (pt_cmpR op_lt (pv 1) (pe_callB (k_len G.K rfl) (by rfl) h_len bt_len (pa_cons (pv 0) pa_nil)) (nomark _)) (pe_ix (k_ix G.K rfl (hu1 hr)) (pv 0) (pv 1) (fun _ _ => rfl)) pe_int))
    (pss_one (ps_ret (pe_lst (pa_cons (pe_op op_mul0 (pe_callB call_abs (by rfl) h_abs bt_abs (pa_cons (pv 2) pa_nil)) (pe_callTy call_int1 (by rfl) h_int bt_int (pa_cons (pe_cmpR op_ge (pe_callB call_abs (by rfl) h_abs bt_abs (pa_cons (pv 2) pa_nil)) (pe_op op_pow pe_int pe_int) (nomark _)) pa_nil))) (pa_cons (pe_op (k_add G.K rfl) (pe_op (k_add G.K rfl) (pe_op op_modN (pe_callTy call_int1 (by rfl) h_int bt_int (pa_cons (pv 2) pa_nil)) pe_int) (pe_op op_mul0 pe_int (pv 1))) pe_int) (pa_cons pe_int pa_nil))))))), ?_⟩
  exact (sim_sseq (sim_sset (sim_tIf (sim_tTest (sim_lt sim_var (sim_len (sim_acons sim_var sim_anil)))) (sim_ix sim_var sim_var) sim_int))
    (sim_sretnew (sim_nlst (sim_acons (sim_mul (sim_abs (sim_acons sim_var sim_anil)) (sim_int' (sim_acons (sim_ge (sim_abs (sim_acons sim_var sim_anil)) (sim_pow sim_int sim_int)) sim_anil))) (sim_acons (sim_add (sim_add (sim_mod (sim_int' (sim_acons sim_var sim_anil)) sim_int) (sim_mul sim_int sim_var)) sim_int) (sim_acons sim_int sim_anil))))))
end
abbrev s17 : Stmt := topS 17
abbrev N17 : List Str := ["_law_box_here", "_law_below", "_law_once", "_law_far", "_law_twice", "_law_drawn"]
abbrev P17 : List Str := ["_law_box_here", "_law_below"]
theorem sc17 : FnScope N17 P17 (defScope s17) := ⟨rfl, rfl, rfl, by decide +kernel, rfl, by decide +kernel, by decide +kernel⟩
def m_Ltake : SS := (sSeq (sIf (tB' (eBin dGt (eBin dIx (eVar 0) (eC (.int 0))) (eC (.int 0)))) (sSeq (sSet 5 (eBin dMod (eB dInt (aCons (eBin dIx (eVar 0) (eC (.int 0))) aNil)) (eVar 1)))
    (sSeq (sPut (eBin dDiv (eBin dIx (eVar 0) (eC (.int 0))) (eVar 1)) (eVar 0) (eC (.int 0)))
    (sRet (eVar 5)))) sNil)
    (sSeq (sPut (eBin dAdd (eBin dIx (eVar 0) (eC (.int 2))) (eC (.int 1))) (eVar 0) (eC (.int 2)))
    (sSeq (sSet 2 (eBin dMod (eB dInt (aCons (eBin dMul (eBin dAdd (eBin dIx (eVar 0) (eC (.int 1))) (eBin dMul (eC (.int 48271)) (eBin dIx (eVar 0) (eC (.int 2))))) (eBin dAdd (eC (.int 39373)) (eBin dIx (eVar 0) (eC (.int 2))))) aNil)) (eC (.int 2147483647))))
    (sSeq (sSet 3 (eBin dAdd (eBin dMod (eB dInt (aCons (eVar 2) aNil)) (eC (.int 40009))) (eC (.int 7))))
    (sSeq (sSet 4 (eBin dMod (eB dInt (aCons (eBin dMul (eBin dAdd (eBin dAdd (eVar 2) (eBin dIx (eVar 0) (eC (.int 2)))) (eBin dDiv (eBin dIx (eVar 0) (eC (.int 1))) (eC (.int 1000003)))) (eVar 3)) aNil)) (eC (.int 2147483629))))
    (sRet (eBin dMod (eB dInt (aCons (eBin dDiv (eBin dMod (eB dInt (aCons (eBin dAdd (eBin dMul (eVar 4) (eC (.int 48271))) (eVar 2)) aNil)) (eC (.int 2147483587))) (eC (.int 64))) aNil)) (eVar 1))))))))
def M_Ltake : FE := runE 6 2 m_Ltake
section
variable {P : Program} {w : World} {G : Gm} {mg : Str → Option Value} {base : Heap} {f : Addr} {fd : FuncData}
theorem ok17 (F : Fun G.K "_law_take" "_law_take" s17 f fd) (h_int : mg "int" = none) : FnOk P w G.K mg base CX0 1 f fd P17 (spE G 2 M_Ltake) := by
  have nd := sc17.nd
  refine ok_E' F sc17 rfl rfl (fun cdv A outer s H E hr => ?_)
  refine ⟨_, (pss_cons (ps_if (pt_cmpR op_gt (pe_ix (k_ix G.K rfl (hu1 hr)) (pv 0) pe_int (fun _ _ => rfl)) pe_int (nomark _)) (pss_cons (ps_set (i := 5) nd rfl (by first | exact Or.inl rfl | exact Or.inr rfl) (pe_op op_modN (pe_callTy call_int1 (by rfl) h_int bt_int (pa_cons (pe_ix (k_ix G.K rfl (hu1 hr)) (pv 0) pe_int (fun _ _ => rfl)) pa_nil)) (pv 1)))
    (pss_cons (ps_asg (pe_op op_fdivN (pe_ix (k_ix G.K rfl (hu1 hr)) (pv 0) pe_int (fun _ _ => rfl)) (pv 1)) (pg_sub (pv 0) pe_int (set_0 (hu1 hr))))
    (pss_one (ps_ret (pv 5))))) pss_nil)
    (pss_cons (ps_asg (pe_op (k_add G.K rfl) (pe_ix (k_ix G.K rfl (hu1 hr)) (pv 0) pe_int (fun _ _ => rfl)) pe_int) (pg_sub (pv 0) pe_int (set_0 (hu1 hr))))
    (pss_cons (ps_set (i := 2) nd rfl (by first | exact Or.inl rfl | exact Or.inr rfl) (pe_op op_modN (pe_callTy call_int1 (by rfl) h_int bt_int (pa_cons (pe_op op_mul0 (pe_op (k_add G.K rfl) (pe_ix (k_ix G.K rfl (hu1 hr)) (pv 0) pe_int (fun _ _ => rfl)) (pe_op op_mul0 pe_int (pe_ix (k_ix G.K rfl (hu1 hr)) (pv 0) pe_int (fun _ _ => rfl)))) (pe_op (k_add G.K rfl) pe_int (pe_ix (k_ix G.K rfl (hu1 hr)) (pv 0) pe_int (fun _ _ => rfl)))) pa_nil)) pe_int))
    (pss_cons (ps_set (i := 3) nd rfl (by first | exact Or.inl rfl | exact Or.inr rfl) (pe_op (k_add G.K rfl) (pe_op op_modN (pe_callTy call_int1 (by rfl) h_int bt_int (pa_cons (pv 2) pa_nil)) pe_int) pe_int))
    (pss_cons (ps_set (i := 4) nd rfl (by first | exact Or.inl rfl | exact Or.inr rfl) (pe_op op_modN (pe_callTy call_int1 (by rfl) h_int bt_int (pa_cons (pe_op op_mul0 (pe_op (k_add G.K rfl) (pe_op (k_add G.K rfl) (pv 2) (pe_ix (k_ix G.K rfl (hu1 hr)) (pv 0) pe_int (fun _ _ => rfl))) (pe_op op_fdivN (pe_ix (k_ix G.K rfl (hu1 hr)) (pv 0) pe_int (fun _ _ => rfl)) pe_int)) (pv 3)) pa_nil)) pe_int))
    (pss_one (ps_ret (pe_op op_modN (pe_callTy call_int1 (by rfl) h_int bt_int (pa_cons (pe_op op_fdivN (pe_op op_modN (pe_callTy call_int1 (by rfl) h_int bt_int (pa_cons (pe_op (k_add G.K rfl) (pe_op op_mul0 (pv 4) pe_int) (pv 2)) pa_nil)) pe_int) pe_int) pa_nil)) (pv 1))))))))), ?_⟩
  exact (sim_sseq (sim_sif (sim_tTest (sim_gt (sim_ix sim_var sim_int) sim_int)) (sim_sseq (sim_sset (sim_mod (sim_int' (sim_acons (sim_ix sim_var sim_int) sim_anil)) sim_var))
    (sim_sseq (sim_sput (sim_div (sim_ix sim_var sim_int) sim_var) sim_var sim_int)
    (sim_sret sim_var))) sim_snil)
    (sim_sseq (sim_sput (sim_add (sim_ix sim_var sim_int) sim_int) sim_var sim_int)
    (sim_sseq (sim_sset (sim_mod (sim_int' (sim_acons (sim_mul (sim_add (sim_ix sim_var sim_int) (sim_mul sim_int (sim_ix sim_var sim_int))) (sim_add sim_int (sim_ix sim_var sim_int))) sim_anil)) sim_int))
    (sim_sseq (sim_sset (sim_add (sim_mod (sim_int' (sim_acons sim_var sim_anil)) sim_int) sim_int))
    (sim_sseq (sim_sset (sim_mod (sim_int' (sim_acons (sim_mul (sim_add (sim_add sim_var (sim_ix sim_var sim_int)) (sim_div (sim_ix sim_var sim_int) sim_int)) sim_var) sim_anil)) sim_int))
    (sim_sret (sim_mod (sim_int' (sim_acons (sim_div (sim_mod (sim_int' (sim_acons (sim_add (sim_mul sim_var sim_int) sim_var) sim_anil)) sim_int) sim_int) sim_anil)) sim_var)))))))
end
abbrev s18 : Stmt := topS 18
abbrev N18 : List Str := ["_law_script", "_law_most", "_law_cells_here", "_law_k", "_law_cell", "_law_at_so"]
abbrev P18 : List Str := ["_law_script", "_law_most"]
theorem sc18 : FnScope N18 P18 (defScope s18) := ⟨rfl, rfl, rfl, by decide +kernel, rfl, by decide +kernel, by decide +kernel⟩
def m_Lcells : SS := (sSeq (sNew 2 (nOrT (nB dList (aCons (eSl (eVar 0) oNone (oSome (eVar 1))) aNil)) (nLst (aCons (eC (.int 0)) aNil))))
    (sSeq (sFor (iEn (aCons (eSl (eVar 0) (oSome (eVar 1)) (oSome (eC (.int 63)))) aNil)) (bSeq 2 (bCons (bName 3) (bCons (bName 4) bNil))) (sSeq (sSet 5 (eBin dMod (eB dInt (aCons (eVar 3) aNil)) (eVar 1)))
    (sPut (eBin dAdd (eBin dIx (eVar 2) (eVar 5)) (eBin dMul (eVar 4) (eBin dAdd (eVar 3) (eC (.int 2))))) (eVar 2) (eVar 5))))
    (sRet (eVar 2))))
def M_Lcells : FE := runE 6 2 m_Lcells
section
variable {P : Program} {w : World} {G : Gm} {mg : Str → Option Value} {base : Heap} {f : Addr} {fd : FuncData}
theorem ok18 (F : Fun G.K "_law_cells" "_law_cells" s18 f fd) (h_enumerate : mg "enumerate" = none) (h_int : mg "int" = none) (h_list : mg "list" = none) : FnOk P w G.K mg base CX0 1 f fd P18 (spE G 2 M_Lcells) := by
  have nd := sc18.nd
  refine ok_E' F sc18 rfl rfl (fun cdv A outer s H E hr => ?_)
  refine ⟨_, (pss_cons (ps_set (i := 2) nd rfl (by first | exact Or.inl rfl | exact Or.inr rfl) (k_orT G.K rfl (pe_callTy (k_list G.K rfl) (by rfl) h_list bt_list (pa_cons (pe_slice (k_sl G.K rfl) (pv 0) po_none (po_some (pv 1))) pa_nil)) (pe_one (pe_lst (pa_cons pe_int pa_nil)))))
    (pss_cons (ps_for PassesOwn.never rfl (k_enum G.K rfl (by rfl) h_enumerate (pa_cons (pe_slice (k_sl G.K rfl) (pv 0) (po_some (pv 1)) (po_some pe_int)) pa_nil)) (k_gseq G.K rfl (n := 2) rfl (pgs_cons (pg_name (i := 3) nd rfl (by first | exact Or.inl rfl | exact Or.inr rfl)) (pgs_cons (pg_name (i := 4) nd rfl (by first | exact Or.inl rfl | exact Or.inr rfl)) pgs_nil))) (pss_cons (ps_set (i := 5) nd rfl (by first | exact Or.inl rfl | exact Or.inr rfl) (pe_op op_modN (pe_callTy call_int1 (by rfl) h_int bt_int (pa_cons (pv 3) pa_nil)) (pv 1)))
    (pss_one (ps_asg (pe_op (k_add G.K rfl) (pe_ix (k_ix G.K rfl (hu1 hr)) (pv 2) (pv 5) (fun _ _ => rfl)) (pe_op op_mul0 (pv 4) (pe_op (k_add G.K rfl) (pv 3) pe_int))) (pg_sub (pv 2) (pv 5) (set_0 (hu1 hr)))))))
    (pss_one (ps_ret (pv 2))))), ?_⟩
  exact (sim_sseq (sim_snew (sim_nOrT (sim_nlist (sim_acons (sim_sl sim_var sim_onone (sim_osome sim_var)) sim_anil)) (sim_nlst (sim_acons sim_int sim_anil))))
    (sim_sseq (sim_sfor (sim_ien (sim_acons (sim_sl sim_var (sim_osome sim_var) (sim_osome sim_int)) sim_anil)) (sim_gseq (sim_gcons (sim_gname (i := 3)) (sim_gcons (sim_gname (i := 4)) sim_gnil))) (sim_sseq (sim_sset (sim_mod (sim_int' (sim_acons sim_var sim_anil)) sim_var))
    (sim_sput (sim_add (sim_ix sim_var sim_var) (sim_mul sim_var (sim_add sim_var sim_int))) sim_var sim_var)))
    (sim_sret sim_var)))
end
abbrev s19 : Stmt := topS 19
abbrev N19 : List Str := ["_law_box_here", "_law_some"]
abbrev P19 : List Str := ["_law_box_here", "_law_some"]
theorem sc19 : FnScope N19 P19 (defScope s19) := ⟨rfl, rfl, rfl, by decide +kernel, rfl, by decide +kernel, by decide +kernel⟩
def m_Lof : SS := (sRet (eBin dIx (eVar 1) (eCall 2 M_Ltake (aCons (eVar 0) (aCons (eB dLen (aCons (eVar 1) aNil)) aNil)))))
def M_Lof : FE := runE 2 2 m_Lof
section
variable {P : Program} {w : World} {G : Gm} {mg : Str → Option Value} {base : Heap} {f : Addr} {fd : FuncData}
theorem ok19 (F : Fun G.K "_law_of" "_law_of" s19 f fd) (c_17 : Cl P w G.K mg base 1 "_law_take" P17 (spE G 2 M_Ltake)) (h_len : mg "len" = none) : FnOk P w G.K mg base CX0 2 f fd P19 (spE G 2 M_Lof) := by
  have nd := sc19.nd
  refine ok_E' F sc19 rfl rfl (fun cdv A outer s H E hr => ?_)
  refine ⟨_, (pss_one (ps_ret (pe_ix (k_ix G.K rfl (hu1 hr)) (pv 1) (pe_cl c_17 hr (by decide) (by rfl) (pa_cons (pv 0) (pa_cons (pe_callB (k_len G.K rfl) (by rfl) h_len bt_len (pa_cons (pv 1) pa_nil)) pa_nil))) (fun _ _ => rfl)))), ?_⟩
  exact (sim_sret (sim_ix sim_var (sim_call (sim_acons sim_var (sim_acons (sim_len (sim_acons sim_var sim_anil)) sim_anil)))))
end
abbrev s20 : Stmt := topS 20
abbrev N20 : List Str := ["_law_found", "_law_due", "_law_mine", "_law_its"]
abbrev P20 : List Str := ["_law_found", "_law_due"]
theorem sc20 : FnScope N20 P20 (defScope s20) := ⟨rfl, rfl, rfl, by decide +kernel, rfl, by decide +kernel, by decide +kernel⟩
def m_Lsame (R : FE) : SS := (sSeq (sIf (tTru (eIsi2 Ty.list Ty.tuple (eVar 1))) (sSeq (sIf (tOr' (tB' (eBin dNe (eIsi Ty.list (eVar 0)) (eIsi Ty.list (eVar 1)))) (tB' (eBin dNe (eIsi Ty.tuple (eVar 0)) (eIsi Ty.tuple (eVar 1))))) (sRet (eC (.bl false))) sNil)
    (sRet (eAndV (eBin dEq (eB dLen (aCons (eVar 0) aNil)) (eB dLen (aCons (eVar 1) aNil))) (eB dAll (aCons (eFr (nLc (iZp (aCons (eVar 0) (aCons (eVar 1) aNil))) (bSeq 2 (bCons (bName 2) (bCons (bName 3) bNil))) tYes' (eCall 2 R (aCons (eVar 2) (aCons (eVar 3) aNil))) [2, 3])) aNil))))) sNil)
    (sSeq (sIf (tOr' (tB' (eBin dIsN (eVar 1) (eC .non))) (tTru (eIsi2 Ty.bool Ty.str (eVar 1)))) (sRet (eAndV (eBin dEq (eVar 0) (eVar 1)) (eAndV (eBin dEq (eIsi Ty.bool (eVar 0)) (eIsi Ty.bool (eVar 1))) (eBin dEq (eBin dIsN (eVar 0) (eC .non)) (eBin dIsN (eVar 1) (eC .non)))))) sNil)
    (sRet (eAndV (eIsi Ty.int (eVar 0)) (eAndV (eNotV (eIsi Ty.bool (eVar 0))) (eBin dEq (eVar 0) (eVar 1)))))))
def M_Lsame : Nat → FE
  | 0 => fun _ _ => none
  | n + 1 => runE 4 2 (m_Lsame (M_Lsame n))
section
variable {P : Program} {w : World} {G : Gm} {mg : Str → Option Value} {base : Heap} {f : Addr} {fd : FuncData}
theorem ok20 (F : Fun G.K "_law_same" "_law_same" s20 f fd) (hm : mg "_law_same" = some (.ref f)) (hb : Binds G.K fd P20 []) (h_all : mg "all" = none) (h_bool : mg "bool" = none) (h_int : mg "int" = none) (h_isinstance : mg "isinstance" = none) (h_len : mg "len" = none) (h_list : mg "list" = none) (h_str : mg "str" = none) (h_tuple : mg "tuple" = none) (h_zip : mg "zip" = none) : ∀ n : Nat, FnOk P w G.K mg base CX0 (0 + n + 1) f fd P20 (spE G 2 (M_Lsame n))
  | 0 => ok_no F sc20
  | n + 1 => by
    have nd := sc20.nd
    have cR : Cl P w G.K mg base (0 + n + 1) "_law_same" P20 (spE G 2 (M_Lsame n)) := ⟨f, fd, ok20 F hm hb h_all h_bool h_int h_isinstance h_len h_list h_str h_tuple h_zip n, hm, F.kp, hb⟩
    refine ok_E' F sc20 (m := m_Lsame (M_Lsame n)) rfl rfl (fun cdv A outer s H E hr => ?_)
    refine ⟨_, (pss_cons (ps_if (k_truth G.K rfl (pe_callB (k_isiT G.K rfl) (by rfl) h_isinstance bt_isinstance (pa_cons (pv 1) (pa_cons (pe_tup (pa_cons (pe_bltn (v := .ty "list") (by rfl) h_list bt_list rfl) (pa_cons (pe_bltn (v := .ty "tuple") (by rfl) h_tuple bt_tuple rfl) pa_nil))) pa_nil))) (fun _ => rfl)) (pss_cons (ps_if (PW.pt (pw_or (pt_cmpR (k_ne G.K rfl (hu64 hr)) (pe_callB (k_isi G.K rfl) (by rfl) h_isinstance bt_isinstance (pa_cons (pv 0) (pa_cons (pe_bltn (v := .ty "list") (by rfl) h_list bt_list rfl) pa_nil))) (pe_callB (k_isi G.K rfl) (by rfl) h_isinstance bt_isinstance (pa_cons (pv 1) (pa_cons (pe_bltn (v := .ty "list") (by rfl) h_list bt_list rfl) pa_nil))) (nomark _)) (pw_or1 (pt_cmpR (k_ne G.K rfl (hu64 hr)) (pe_callB (k_isi G.K rfl) (by rfl) h_isinstance bt_isinstance (pa_cons (pv 0) (pa_cons (pe_bltn (v := .ty "tuple") (by rfl) h_tuple bt_tuple rfl) pa_nil))) (pe_callB (k_isi G.K rfl) (by rfl) h_isinstance bt_isinstance (pa_cons (pv 1) (pa_cons (pe_bltn (v := .ty "tuple") (by rfl) h_tuple bt_tuple rfl) pa_nil))) (nomark _))))) (pss_one (ps_ret pe_bl)) pss_nil)
    (pss_one (ps_ret (pe_and (pe_cmpR (k_eq G.K rfl (hu64 hr)) (pe_callB (k_len G.K rfl) (by rfl) h_len bt_len (pa_cons (pv 0) pa_nil)) (pe_callB (k_len G.K rfl) (by rfl) h_len bt_len (pa_cons (pv 1) pa_nil)) (nomark _)) (pe_one (pe_callB (k_all G.K rfl rfl) (by rfl) h_all bt_all (pa_cons (pe_lc (own := [("_law_mine", 2), ("_law_its", 3)]) rfl nd (k_zip G.K rfl (by rfl) h_zip (pa_cons (pv 0) (pa_cons (pv 1) pa_nil))) (blkOk_by (own := [("_law_mine", 2), ("_law_its", 3)]) (N := N20) (sc := defScope s20) (by decide +kernel)) (fun _ _ _ _ _ => (k_gseq G.K rfl (n := 2) rfl (pgs_cons (pg_name (i := 2) nd rfl (Or.inl rfl)) (pgs_cons (pg_name (i := 3) nd rfl (Or.inl rfl)) pgs_nil)))) (fun _ _ _ _ _ => pts_nil) (fun _ _ _ _ _ => (pe_cl cR hr (Nat.le_refl _) (by rfl) (pa_cons (pv 2) (pa_cons (pv 3) pa_nil))))) pa_nil))))))) pss_nil)
    (pss_cons (ps_if (PW.pt (pw_or (pt_cmpR op_isN (pv 1) pe_non (nomark _)) (pw_or1 (k_truth G.K rfl (pe_callB (k_isiT G.K rfl) (by rfl) h_isinstance bt_isinstance (pa_cons (pv 1) (pa_cons (pe_tup (pa_cons (pe_bltn (v := .ty "bool") (by rfl) h_bool bt_bool rfl) (pa_cons (pe_bltn (v := .ty "str") (by rfl) h_str bt_str rfl) pa_nil))) pa_nil))) (fun _ => rfl))))) (pss_one (ps_ret (pe_and (pe_cmpR (k_eq G.K rfl (hu64 hr)) (pv 0) (pv 1) (nomark _)) (pe_and (pe_cmpR (k_eq G.K rfl (hu64 hr)) (pe_callB (k_isi G.K rfl) (by rfl) h_isinstance bt_isinstance (pa_cons (pv 0) (pa_cons (pe_bltn (v := .ty "bool") (by rfl) h_bool bt_bool rfl) pa_nil))) (pe_callB (k_isi G.K rfl) (by rfl) h_isinstance bt_isinstance (pa_cons (pv 1) (pa_cons (pe_bltn (v := .ty "bool") (by rfl) h_bool bt_bool rfl) pa_nil))) (nomark _)) (pe_one (pe_cmpR (k_eq G.K rfl (hu64 hr)) (pe_cmpR op_isN (pv 0) pe_non (nomark _)) (pe_cmpR op_isN (pv 1) pe_non (nomark _)) (nomark _))))))) pss_nil)
    (pss_one (ps_ret (pe_and (pe_callB (k_isi G.K rfl) (by rfl) h_isinstance bt_isinstance (pa_cons (pv 0) (pa_cons (pe_bltn (v := .ty "int") (by rfl) h_int bt_int rfl) pa_nil))) (pe_and (pe_not (pe_callB (k_isi G.K rfl) (by rfl) h_isinstance bt_isinstance (pa_cons (pv 0) (pa_cons (pe_bltn (v := .ty "bool") (by rfl) h_bool bt_bool rfl) pa_nil)))) (pe_one (pe_cmpR (k_eq G.K rfl (hu64 hr)) (pv 0) (pv 1) (nomark _))))))))), ?_⟩
    exact (sim_sseq (sim_sif (sim_tTru (sim_isi2 (t := Ty.list) (u := Ty.tuple) sim_var)) (sim_sseq (sim_sif (sim_tOr (sim_tTest (sim_ne (sim_isi (t := Ty.list) sim_var) (sim_isi (t := Ty.list) sim_var))) (sim_tTest (sim_ne (sim_isi (t := Ty.tuple) sim_var) (sim_isi (t := Ty.tuple) sim_var)))) (sim_sret sim_bl) sim_snil)
    (sim_sret (sim_andV (sim_eq (sim_len (sim_acons sim_var sim_anil)) (sim_len (sim_acons sim_var sim_anil))) (sim_all (sim_acons (SimN.e (sim_nlc (vs := [2, 3]) (sim_izp (sim_acons sim_var (sim_acons sim_var sim_anil))) (sim_gseq (sim_gcons (sim_gname (i := 2)) (sim_gcons (sim_gname (i := 3)) sim_gnil))) (by decide) sim_tyes (sim_call (sim_acons sim_var (sim_acons sim_var sim_anil))))) sim_anil))))) sim_snil)
    (sim_sseq (sim_sif (sim_tOr (sim_tTest (sim_isN sim_var sim_non)) (sim_tTru (sim_isi2 (t := Ty.bool) (u := Ty.str) sim_var))) (sim_sret (sim_andV (sim_eq sim_var sim_var) (sim_andV (sim_eq (sim_isi (t := Ty.bool) sim_var) (sim_isi (t := Ty.bool) sim_var)) (sim_eq (sim_isN sim_var sim_non) (sim_isN sim_var sim_non))))) sim_snil)
    (sim_sret (sim_andV (sim_isi (t := Ty.int) sim_var) (sim_andV (sim_notV (sim_isi (t := Ty.bool) sim_var)) (sim_eq sim_var sim_var))))))
end
abbrev s21 : Stmt := topS 21
abbrev N21 : List Str := ["_law_box_here", "_law_many", "_law_bare", "_law_k", "_law_left", "_law_found", "_law_supers", "_law_name", "_law_some", "_law_row", "_law_turn"]
abbrev P21 : List Str := ["_law_box_here", "_law_many", "_law_bare"]
theorem sc21 : FnScope N21 P21 (defScope s21) := ⟨rfl, rfl, rfl, by decide +kernel, rfl, by decide +kernel, by decide +kernel⟩
def m_Lkinds : SS := (sSeq (sMul [4, 5] (aNew (nLst (aCons (eC (.str "a")) (aCons (eC (.str "b")) (aCons (eC (.str "c")) (aCons (eC (.str "d")) (aCons (eC (.str "e")) (aCons (eC (.str "f")) (aCons (eC (.str "ab")) (aCons (eC (.str "z")) aNil))))))))) (aNew (nLst aNil) aNil)))
    (sSeq (sFor (iRg1 (aCons (eVar 1) aNil)) (bName 3) (sSeq (sMul [7, 8] (aCons (ePopAt (eVar 4) (eCall 2 M_Ltake (aCons (eVar 0) (aCons (eB dLen (aCons (eVar 4) aNil)) aNil)))) (aCons (eFr (nLc (iSq (eVar 5)) (bName 9) tYes' (eBin dIx (eVar 9) (eC (.int 0))) [9])) aNil)))
    (sSeq (sSet 6 (eFr (nSortSet (eFr (nLc (iRg1 (aCons (eCall 2 M_Ltake (aCons (eVar 0) (aCons (eC (.int 4)) aNil))) aNil)) (bName 10) (tB' (eBin dNe (eVar 8) (eFr (nLst aNil)))) (eCall 2 M_Lof (aCons (eVar 0) (aCons (eVar 8) aNil))) [10])))))
    (sDrop (eApp (eVar 5) (eTup (aCons (eVar 7) (aCons (eB dTuple (aCons (eVar 6) aNil)) (aCons (eBin dLt (eCall 2 M_Ltake (aCons (eVar 0) (aCons (eC (.int 12)) aNil))) (eVar 2)) aNil)))))))))
    (sRet (eB dTuple (aCons (eVar 5) aNil)))))
def M_Lkinds : FE := runE 11 3 m_Lkinds
section
variable {P : Program} {w : World} {G : Gm} {mg : Str → Option Value} {base : Heap} {f : Addr} {fd : FuncData}
theorem ok21 (F : Fun G.K "_law_kinds" "_law_kinds" s21 f fd) (c_19 : Cl P w G.K mg base 2 "_law_of" P19 (spE G 2 M_Lof)) (c_17 : Cl P w G.K mg base 1 "_law_take" P17 (spE G 2 M_Ltake)) (h_len : mg "len" = none) (h_range : mg "range" = none) (h_set : mg "set" = none) (h_sorted : mg "sorted" = none) (h_tuple : mg "tuple" = none) : FnOk P w G.K mg base CX0 3 f fd P21 (spE G 3 M_Lkinds) := by
  have nd := sc21.nd
  refine ok_E' F sc21 rfl rfl (fun cdv A outer s H E hr => ?_)
  refine ⟨_, (pss_cons (ps_par (i := 4) (j := 5) rfl nd rfl rfl (by decide) rfl rfl (pa_cons (pe_lst (pa_cons pe_str (pa_cons pe_str (pa_cons pe_str (pa_cons pe_str (pa_cons pe_str (pa_cons pe_str (pa_cons pe_str (pa_cons pe_str pa_nil))))))))) (pa_cons (pe_lst pa_nil) pa_nil)) rfl)
    (pss_cons (ps_for PassesOwn.never rfl (pi_range1 (by rfl) h_range (pa_cons (pv 1) pa_nil)) (pg_name (i := 3) nd rfl (by first | exact Or.inl rfl | exact Or.inr rfl)) (pss_cons (ps_asg (pe_tup (pa_cons (pe_bm PySem.F.plainAttrs_list PySem.F.slot_list_pop PySem.F.type_list_pop mt_popAt (pv 4) (pa_cons (pe_cl c_17 hr (by decide) (by rfl) (pa_cons (pv 0) (pa_cons (pe_callB (k_len G.K rfl) (by rfl) h_len bt_len (pa_cons (pv 4) pa_nil)) pa_nil))) pa_nil)) (pa_cons (pe_lc (own := [("_law_row", 9)]) rfl nd (k_seq G.K rfl (pv 5)) (blkOk_by (own := [("_law_row", 9)]) (N := N21) (sc := defScope s21) (by decide +kernel)) (fun _ _ _ _ _ => (pg_name (i := 9) nd rfl (Or.inl rfl))) (fun _ _ _ _ _ => pts_nil) (fun _ _ _ _ _ => (pe_ix (k_ix G.K rfl (hu1 hr)) (pv 9) pe_int (fun _ _ => rfl)))) pa_nil))) (k_gseq G.K rfl (n := 2) rfl (pgs_cons (pg_name (i := 7) nd rfl (by first | exact Or.inl rfl | exact Or.inr rfl)) (pgs_cons (pg_name (i := 8) nd rfl (by first | exact Or.inl rfl | exact Or.inr rfl)) pgs_nil))))
    (pss_cons (ps_set (i := 6) nd rfl (by first | exact Or.inl rfl | exact Or.inr rfl) (pe_callB (k_srt P w rfl rfl rfl) (by rfl) h_sorted bt_sorted (pa_cons (pe_callTy (k_set G.K P w rfl rfl rfl rfl) (by rfl) h_set bt_set (pa_cons (pe_lc (own := [("_law_turn", 10)]) rfl nd (pi_range1 (by rfl) h_range (pa_cons (pe_cl c_17 hr (by decide) (by rfl) (pa_cons (pv 0) (pa_cons pe_int pa_nil))) pa_nil)) (blkOk_by (own := [("_law_turn", 10)]) (N := N21) (sc := defScope s21) (by decide +kernel)) (fun _ _ _ _ _ => (pg_name (i := 10) nd rfl (Or.inl rfl))) (fun _ _ _ _ _ => (pts_one (pt_cmpR (k_ne G.K rfl (hu64 hr)) (pv 8) (pe_lst pa_nil) (nomark _)))) (fun _ _ _ _ _ => (pe_cl c_19 hr (by decide) (by rfl) (pa_cons (pv 0) (pa_cons (pv 8) pa_nil))))) pa_nil)) pa_nil)))
    (pss_one (ps_expr (pe_bm PySem.F.plainAttrs_list PySem.F.slot_list_append PySem.F.type_list_append mt_append (pv 5) (pa_cons (pe_tup (pa_cons (pv 7) (pa_cons (pe_callTy (k_tuple G.K rfl) (by rfl) h_tuple bt_tuple (pa_cons (pv 6) pa_nil)) (pa_cons (pe_cmpR op_lt (pe_cl c_17 hr (by decide) (by rfl) (pa_cons (pv 0) (pa_cons pe_int pa_nil))) (pv 2) (nomark _)) pa_nil)))) pa_nil)))))))
    (pss_one (ps_ret (pe_callTy (k_tuple G.K rfl) (by rfl) h_tuple bt_tuple (pa_cons (pv 5) pa_nil)))))), ?_⟩
  exact (sim_sseq (sim_spar (sim_agnew (sim_nlst (sim_acons sim_str (sim_acons sim_str (sim_acons sim_str (sim_acons sim_str (sim_acons sim_str (sim_acons sim_str (sim_acons sim_str (sim_acons sim_str sim_anil))))))))) (sim_agnew (sim_nlst sim_anil) sim_agnil)))
    (sim_sseq (sim_sfor (sim_irg1 (sim_acons sim_var sim_anil)) (sim_gname (i := 3)) (sim_sseq (sim_smul (is := [7, 8]) (sim_agcons (sim_popAt sim_var (sim_call (sim_acons sim_var (sim_acons (sim_len (sim_acons sim_var sim_anil)) sim_anil)))) (sim_agcons (SimN.e (sim_nlc (vs := [9]) (sim_iseq sim_var) (sim_gname (i := 9)) (by decide) sim_tyes (sim_ix sim_var sim_int))) sim_agnil)) rfl (by decide))
    (sim_sseq (sim_sset (SimN.e (sim_sortset (SimN.e (sim_nlc (vs := [10]) (sim_irg1 (sim_acons (sim_call (sim_acons sim_var (sim_acons sim_int sim_anil))) sim_anil)) (sim_gname (i := 10)) (by decide) (sim_tTest (sim_ne sim_var (SimN.e (sim_nlst sim_anil)))) (sim_call (sim_acons sim_var (sim_acons sim_var sim_anil))))))))
    (sim_sdrop (sim_app sim_var (sim_tup (sim_acons sim_var (sim_acons (sim_tuple (sim_acons sim_var sim_anil)) (sim_acons (sim_lt (sim_call (sim_acons sim_var (sim_acons sim_int sim_anil))) sim_var) sim_anil)))))))))
    (sim_sret (sim_tuple (sim_acons sim_var sim_anil)))))
end
abbrev s22 : Stmt := topS 22
abbrev N22 : List Str := ["_law_kinds_so", "_law_places", "_law_found", "_law_turn", "_law_later", "_law_shape_so", "_law_name", "_law_row"]
abbrev P22 : List Str := ["_law_kinds_so", "_law_places"]
theorem sc22 : FnScope N22 P22 (defScope s22) := ⟨rfl, rfl, rfl, by decide +kernel, rfl, by decide +kernel, by decide +kernel⟩
def m_Lshapes : SS := (sSeq (sNew 2 (nLst (aCons (eTup aNil) aNil)))
    (sSeq (sFor (iRg1 (aCons (eVar 1) aNil)) (bName 3) (sSeq (sNew 4 (nLst aNil))
    (sSeq (sFor (iSq (eVar 2)) (bName 5) (sNew 4 (nBin dCat (eVar 4) (eFr (nLc (iSq (eFr (nB dSort2 (aCons (eFr (nLc (iSq (eVar 0)) (bName 7) tYes' (eBin dIx (eVar 7) (eC (.int 0))) [7])) aNil)))) (bName 6) tYes' (eBin dAdd (eVar 5) (eTup (aCons (eVar 6) aNil))) [6])))))
    (sSet 2 (eVar 4)))))
    (sRet (eVar 2))))
def M_Lshapes : FN := runN 8 2 m_Lshapes
section
variable {P : Program} {w : World} {G : Gm} {mg : Str → Option Value} {base : Heap} {f : Addr} {fd : FuncData}
theorem ok22 (F : Fun G.K "_law_shapes" "_law_shapes" s22 f fd) (h_range : mg "range" = none) (h_sorted : mg "sorted" = none) : FnOk P w G.K mg base CX0 1 f fd P22 (spN G 2 M_Lshapes) := by
  have nd := sc22.nd
  refine ok_N' F sc22 rfl rfl (fun cdv A outer s H E hr => ?_)
  refine ⟨_, (pss_cons (ps_set (i := 2) nd rfl (by first | exact Or.inl rfl | exact Or.inr rfl) (pe_lst (pa_cons (pe_tup pa_nil) pa_nil)))
    (pss_cons (ps_for PassesOwn.never rfl (pi_range1 (by rfl) h_range (pa_cons (pv 1) pa_nil)) (pg_name (i := 3) nd rfl (by first | exact Or.inl rfl | exact Or.inr rfl)) (pss_cons (ps_set (i := 4) nd rfl (by first | exact Or.inl rfl | exact Or.inr rfl) (pe_lst pa_nil))
    (pss_cons (ps_for PassesOwn.never rfl (k_seq G.K rfl (pv 2)) (pg_name (i := 5) nd rfl (by first | exact Or.inl rfl | exact Or.inr rfl)) (pss_one (ps_set (i := 4) nd rfl (by first | exact Or.inl rfl | exact Or.inr rfl) (pe_op (k_add G.K rfl) (pv 4) (pe_lc (own := [("_law_name", 6)]) rfl nd (k_seq G.K rfl (pe_callB (k_sort2 G.K rfl rfl (hu64 hr)) (by rfl) h_sorted bt_sorted (pa_cons (pe_lc (own := [("_law_row", 7)]) rfl nd (k_seq G.K rfl (pv 0)) (blkOk_by (own := [("_law_row", 7)]) (N := N22) (sc := defScope s22) (by decide +kernel)) (fun _ _ _ _ _ => (pg_name (i := 7) nd rfl (Or.inl rfl))) (fun _ _ _ _ _ => pts_nil) (fun _ _ _ _ _ => (pe_ix (k_ix G.K rfl (hu1 hr)) (pv 7) pe_int (fun _ _ => rfl)))) pa_nil))) (blkOk_by (own := [("_law_name", 6)]) (N := N22) (sc := defScope s22) (by decide +kernel)) (fun _ _ _ _ _ => (pg_name (i := 6) nd rfl (Or.inl rfl))) (fun _ _ _ _ _ => pts_nil) (fun _ _ _ _ _ => (pe_op (k_add G.K rfl) (pv 5) (pe_tup (pa_cons (pv 6) pa_nil)))))))))
    (pss_one (ps_set (i := 2) nd rfl (by first | exact Or.inl rfl | exact Or.inr rfl) (pv 4))))))
    (pss_one (ps_ret (pv 2))))), ?_⟩
  exact (sim_sseq (sim_snew (sim_nlst (sim_acons (sim_tup sim_anil) sim_anil)))
    (sim_sseq (sim_sfor (sim_irg1 (sim_acons sim_var sim_anil)) (sim_gname (i := 3)) (sim_sseq (sim_snew (sim_nlst sim_anil))
    (sim_sseq (sim_sfor (sim_iseq sim_var) (sim_gname (i := 5)) (sim_snew (sim_ncat sim_var (SimN.e (sim_nlc (vs := [6]) (sim_iseq (SimN.e (sim_nsort2 (sim_acons (SimN.e (sim_nlc (vs := [7]) (sim_iseq sim_var) (sim_gname (i := 7)) (by decide) sim_tyes (sim_ix sim_var sim_int))) sim_anil)))) (sim_gname (i := 6)) (by decide) sim_tyes (sim_add sim_var (sim_tup (sim_acons sim_var sim_anil))))))))
    (sim_sset sim_var))))
    (sim_sret sim_var)))
end
abbrev s23 : Stmt := topS 23
abbrev N23 : List Str := ["_law_box_here", "_law_kinds_so", "_law_places", "_law_many", "_law_turn", "_law_labels", "_law_shapes_so", "_law_found", "_law_shape_so"]
abbrev P23 : List Str := ["_law_box_here", "_law_kinds_so", "_law_places", "_law_many"]
theorem sc23 : FnScope N23 P23 (defScope s23) := ⟨rfl, rfl, rfl, by decide +kernel, rfl, by decide +kernel, by decide +kernel⟩
def m_Lmethods : SS := (sSeq (sMul [5, 6, 7] (aNew (nLst (aCons (eC (.str "p")) (aCons (eC (.str "q")) (aCons (eC (.str "r")) (aCons (eC (.str "s")) (aCons (eC (.str "a")) (aCons (eC (.str "mm")) (aCons (eC (.str "t")) aNil)))))))) (aNew (nCall 2 M_Lshapes (aCons (eVar 1) (aCons (eVar 2) aNil))) (aNew (nLst aNil) aNil))))
    (sSeq (sFor (iRg1 (aCons (eVar 3) aNil)) (bName 4) (sIf (tB' (eBin dNe (eVar 6) (eFr (nLst aNil)))) (sSeq (sSet 8 (ePopAt (eVar 6) (eCall 2 M_Ltake (aCons (eVar 0) (aCons (eB dLen (aCons (eVar 6) aNil)) aNil)))))
    (sDrop (eApp (eVar 7) (eTup (aCons (ePopAt (eVar 5) (eCall 2 M_Ltake (aCons (eVar 0) (aCons (eB dLen (aCons (eVar 5) aNil)) aNil)))) (aCons (eVar 8) aNil)))))) sNil))
    (sRet (eB dTuple (aCons (eFr (nB dSort2 (aCons (eVar 7) aNil))) aNil)))))
def M_Lmethods : FE := runE 9 4 m_Lmethods
section
variable {P : Program} {w : World} {G : Gm} {mg : Str → Option Value} {base : Heap} {f : Addr} {fd : FuncData}
theorem ok23 (F : Fun G.K "_law_methods" "_law_methods" s23 f fd) (c_22 : Cl P w G.K mg base 1 "_law_shapes" P22 (spN G 2 M_Lshapes)) (c_17 : Cl P w G.K mg base 1 "_law_take" P17 (spE G 2 M_Ltake)) (h_len : mg "len" = none) (h_range : mg "range" = none) (h_sorted : mg "sorted" = none) (h_tuple : mg "tuple" = none) : FnOk P w G.K mg base CX0 2 f fd P23 (spE G 4 M_Lmethods) := by
  have nd := sc23.nd
  refine ok_E' F sc23 rfl rfl (fun cdv A outer s H E hr => ?_)
  refine ⟨_, (pss_cons (ps_par3 (i := 5) (j := 6) (l := 7) rfl nd rfl rfl rfl (by decide) (by decide) (by decide) rfl rfl rfl (pa_cons (pe_lst (pa_cons pe_str (pa_cons pe_str (pa_cons pe_str (pa_cons pe_str (pa_cons pe_str (pa_cons pe_str (pa_cons pe_str pa_nil)))))))) (pa_cons (pe_cl c_22 hr (by decide) (by rfl) (pa_cons (pv 1) (pa_cons (pv 2) pa_nil))) (pa_cons (pe_lst pa_nil) pa_nil))) rfl)
    (pss_cons (ps_for PassesOwn.never rfl (pi_range1 (by rfl) h_range (pa_cons (pv 3) pa_nil)) (pg_name (i := 4) nd rfl (by first | exact Or.inl rfl | exact Or.inr rfl)) (pss_one (ps_if (pt_cmpR (k_ne G.K rfl (hu64 hr)) (pv 6) (pe_lst pa_nil) (nomark _)) (pss_cons (ps_set (i := 8) nd rfl (by first | exact Or.inl rfl | exact Or.inr rfl) (pe_bm PySem.F.plainAttrs_list PySem.F.slot_list_pop PySem.F.type_list_pop mt_popAt (pv 6) (pa_cons (pe_cl c_17 hr (by decide) (by rfl) (pa_cons (pv 0) (pa_cons (pe_callB (k_len G.K rfl) (by rfl) h_len bt_len (pa_cons (pv 6) pa_nil)) pa_nil))) pa_nil)))
    (pss_one (ps_expr (pe_bm PySem.F.plainAttrs_list PySem.F.slot_list_append PySem.F.type_list_append mt_append (pv 7) (pa_cons (pe_tup (pa_cons (pe_bm PySem.F.plainAttrs_list PySem.F.slot_list_pop PySem.F.type_list_pop mt_popAt (pv 5) (pa_cons (pe_cl c_17 hr (by decide) (by rfl) (pa_cons (pv 0) (pa_cons (pe_callB (k_len G.K rfl) (by rfl) h_len bt_len (pa_cons (pv 5) pa_nil)) pa_nil))) pa_nil)) (pa_cons (pv 8) pa_nil))) pa_nil))))) pss_nil)))
    (pss_one (ps_ret (pe_callTy (k_tuple G.K rfl) (by rfl) h_tuple bt_tuple (pa_cons (pe_callB (k_sort2 G.K rfl rfl (hu64 hr)) (by rfl) h_sorted bt_sorted (pa_cons (pv 7) pa_nil)) pa_nil)))))), ?_⟩
  exact (sim_sseq (sim_spar3 (sim_agnew (sim_nlst (sim_acons sim_str (sim_acons sim_str (sim_acons sim_str (sim_acons sim_str (sim_acons sim_str (sim_acons sim_str (sim_acons sim_str sim_anil)))))))) (sim_agnew (sim_ncall (sim_acons sim_var (sim_acons sim_var sim_anil))) (sim_agnew (sim_nlst sim_anil) sim_agnil))))
    (sim_sseq (sim_sfor (sim_irg1 (sim_acons sim_var sim_anil)) (sim_gname (i := 4)) (sim_sif (sim_tTest (sim_ne sim_var (SimN.e (sim_nlst sim_anil)))) (sim_sseq (sim_sset (sim_popAt sim_var (sim_call (sim_acons sim_var (sim_acons (sim_len (sim_acons sim_var sim_anil)) sim_anil)))))
    (sim_sdrop (sim_app sim_var (sim_tup (sim_acons (sim_popAt sim_var (sim_call (sim_acons sim_var (sim_acons (sim_len (sim_acons sim_var sim_anil)) sim_anil)))) (sim_acons sim_var sim_anil)))))) sim_snil))
    (sim_sret (sim_tuple (sim_acons (SimN.e (sim_nsort2 (sim_acons sim_var sim_anil))) sim_anil)))))
end
abbrev s24 : Stmt := topS 24
abbrev N24 : List Str := ["_law_generic_so"]
abbrev P24 : List Str := ["_law_generic_so"]
theorem sc24 : FnScope N24 P24 (defScope s24) := ⟨rfl, rfl, rfl, by decide +kernel, rfl, by decide +kernel, by decide +kernel⟩
def m_Lcalls : SS := (sRet (eFr (nCall 2 M_Lshapes (aCons (eBin dIx (eVar 0) (eC (.int 0))) (aCons (eBin dIx (eVar 0) (eC (.int 1))) aNil)))))
def M_Lcalls : FE := runE 1 1 m_Lcalls
section
variable {P : Program} {w : World} {G : Gm} {mg : Str → Option Value} {base : Heap} {f : Addr} {fd : FuncData}
theorem ok24 (F : Fun G.K "_law_calls" "_law_calls" s24 f fd) (c_22 : Cl P w G.K mg base 1 "_law_shapes" P22 (spN G 2 M_Lshapes)) : FnOk P w G.K mg base CX0 2 f fd P24 (spE G 1 M_Lcalls) := by
  have nd := sc24.nd
  refine ok_E' F sc24 rfl rfl (fun cdv A outer s H E hr => ?_)
  refine ⟨_, (pss_one (ps_ret (pe_cl c_22 hr (by decide) (by rfl) (pa_cons (pe_ix (k_ix G.K rfl (hu1 hr)) (pv 0) pe_int (fun _ _ => rfl)) (pa_cons (pe_ix (k_ix G.K rfl (hu1 hr)) (pv 0) pe_int (fun _ _ => rfl)) pa_nil))))), ?_⟩
  exact (sim_sret (SimN.e (sim_ncall (sim_acons (sim_ix sim_var sim_int) (sim_acons (sim_ix sim_var sim_int) sim_anil)))))
end
abbrev s25 : Stmt := topS 25
abbrev N25 : List Str := ["_law_one_so", "_law_other_so", "_law_found", "_law_mine", "_law_its"]
abbrev P25 : List Str := ["_law_one_so", "_law_other_so"]
theorem sc25 : FnScope N25 P25 (defScope s25) := ⟨rfl, rfl, rfl, by decide +kernel, rfl, by decide +kernel, by decide +kernel⟩
def m_Ljoined : SS := (sSeq (sSet 2 (eFr (nLst aNil)))
    (sSeq (sFor (iSq (eVar 0)) (bName 3) (sSet 2 (eBin dAdd (eVar 2) (eFr (nLc (iSq (eVar 1)) (bName 4) tYes' (eBin dAdd (eBin dAdd (eVar 3) (eC (.str "x"))) (eVar 4)) [4])))))
    (sRet (eFr (nB dSort2 (aCons (eVar 2) aNil))))))
def M_Ljoined : FE := runE 5 2 m_Ljoined
section
variable {P : Program} {w : World} {G : Gm} {mg : Str → Option Value} {base : Heap} {f : Addr} {fd : FuncData}
theorem ok25 (F : Fun G.K "_law_joined" "_law_joined" s25 f fd) (h_sorted : mg "sorted" = none) : FnOk P w G.K mg base CX0 1 f fd P25 (spE G 2 M_Ljoined) := by
  have nd := sc25.nd
  refine ok_E' F sc25 rfl rfl (fun cdv A outer s H E hr => ?_)
  refine ⟨_, (pss_cons (ps_set (i := 2) nd rfl (by first | exact Or.inl rfl | exact Or.inr rfl) (pe_lst pa_nil))
    (pss_cons (ps_for PassesOwn.never rfl (k_seq G.K rfl (pv 0)) (pg_name (i := 3) nd rfl (by first | exact Or.inl rfl | exact Or.inr rfl)) (pss_one (ps_set (i := 2) nd rfl (by first | exact Or.inl rfl | exact Or.inr rfl) (pe_op (k_add G.K rfl) (pv 2) (pe_lc (own := [("_law_its", 4)]) rfl nd (k_seq G.K rfl (pv 1)) (blkOk_by (own := [("_law_its", 4)]) (N := N25) (sc := defScope s25) (by decide +kernel)) (fun _ _ _ _ _ => (pg_name (i := 4) nd rfl (Or.inl rfl))) (fun _ _ _ _ _ => pts_nil) (fun _ _ _ _ _ => (pe_op (k_add G.K rfl) (pe_op (k_add G.K rfl) (pv 3) pe_str) (pv 4))))))))
    (pss_one (ps_ret (pe_callB (k_sort2 G.K rfl rfl (hu64 hr)) (by rfl) h_sorted bt_sorted (pa_cons (pv 2) pa_nil)))))), ?_⟩
  exact (sim_sseq (sim_sset (SimN.e (sim_nlst sim_anil)))
    (sim_sseq (sim_sfor (sim_iseq sim_var) (sim_gname (i := 3)) (sim_sset (sim_add sim_var (SimN.e (sim_nlc (vs := [4]) (sim_iseq sim_var) (sim_gname (i := 4)) (by decide) sim_tyes (sim_add (sim_add sim_var sim_str) sim_var))))))
    (sim_sret (SimN.e (sim_nsort2 (sim_acons sim_var sim_anil))))))
end
abbrev s26 : Stmt := topS 26
abbrev N26 : List Str := ["_law_one_so", "_law_other_so", "_law_rows", "_law_label_so", "_law_spot", "_law_its"]
abbrev P26 : List Str := ["_law_one_so", "_law_other_so"]
theorem sc26 : FnScope N26 P26 (defScope s26) := ⟨rfl, rfl, rfl, by decide +kernel, rfl, by decide +kernel, by decide +kernel⟩
def m_Lgreat : SS := (sSeq (sSet 2 (eFr (nLst aNil)))
    (sSeq (sFor (iSq (eBin dIx (eVar 0) (eC (.int 2)))) (bSeq 2 (bCons (bName 3) (bCons (bName 4) bNil))) (sSet 2 (eBin dAdd (eVar 2) (eFr (nLc (iSq (eBin dIx (eVar 1) (eC (.int 2)))) (bName 5) tYes' (eTup (aCons (eBin dAdd (eBin dAdd (eVar 3) (eC (.str "x"))) (eBin dIx (eVar 5) (eC (.int 0)))) (aCons (eBin dAdd (eVar 4) (eBin dIx (eVar 5) (eC (.int 1)))) aNil))) [5])))))
    (sRet (eTup (aCons (eBin dIx (eVar 0) (eC (.int 0))) (aCons (eBin dAdd (eBin dIx (eVar 0) (eC (.int 1))) (eBin dIx (eVar 1) (eC (.int 1)))) (aCons (eB dTuple (aCons (eFr (nB dSort2 (aCons (eVar 2) aNil))) aNil)) aNil)))))))
def M_Lgreat : FE := runE 6 2 m_Lgreat
section
variable {P : Program} {w : World} {G : Gm} {mg : Str → Option Value} {base : Heap} {f : Addr} {fd : FuncData}
theorem ok26 (F : Fun G.K "_law_great" "_law_great" s26 f fd) (h_sorted : mg "sorted" = none) (h_tuple : mg "tuple" = none) : FnOk P w G.K mg base CX0 1 f fd P26 (spE G 2 M_Lgreat) := by
  have nd := sc26.nd
  refine ok_E' F sc26 rfl rfl (fun cdv A outer s H E hr => ?_)
  refine ⟨_, (pss_cons (ps_set (i := 2) nd rfl (by first | exact Or.inl rfl | exact Or.inr rfl) (pe_lst pa_nil))
    (pss_cons (ps_for PassesOwn.never rfl (k_seq G.K rfl (pe_ix (k_ix G.K rfl (hu1 hr)) (pv 0) pe_int (fun _ _ => rfl))) (k_gseq G.K rfl (n := 2) rfl (pgs_cons (pg_name (i := 3) nd rfl (by first | exact Or.inl rfl | exact Or.inr rfl)) (pgs_cons (pg_name (i := 4) nd rfl (by first | exact Or.inl rfl | exact Or.inr rfl)) pgs_nil))) (pss_one (ps_set (i := 2) nd rfl (by first | exact Or.inl rfl | exact Or.inr rfl) (pe_op (k_add G.K rfl) (pv 2) (pe_lc (own := [("_law_its", 5)]) rfl nd (k_seq G.K rfl (pe_ix (k_ix G.K rfl (hu1 hr)) (pv 1) pe_int (fun _ _ => rfl))) (blkOk_by (own := [("_law_its", 5)]) (N := N26) (sc := defScope s26) (by decide +kernel)) (fun _ _ _ _ _ => (pg_name (i := 5) nd rfl (Or.inl rfl))) (fun _ _ _ _ _ => pts_nil) (fun _ _ _ _ _ => (pe_tup (pa_cons (pe_op (k_add G.K rfl) (pe_op (k_add G.K rfl) (pv 3) pe_str) (pe_ix (k_ix G.K rfl (hu1 hr)) (pv 5) pe_int (fun _ _ => rfl))) (pa_cons (pe_op (k_add G.K rfl) (pv 4) (pe_ix (k_ix G.K rfl (hu1 hr)) (pv 5) pe_int (fun _ _ => rfl))) pa_nil)))))))))
    (pss_one (ps_ret (pe_tup (pa_cons (pe_ix (k_ix G.K rfl (hu1 hr)) (pv 0) pe_int (fun _ _ => rfl)) (pa_cons (pe_op (k_add G.K rfl) (pe_ix (k_ix G.K rfl (hu1 hr)) (pv 0) pe_int (fun _ _ => rfl)) (pe_ix (k_ix G.K rfl (hu1 hr)) (pv 1) pe_int (fun _ _ => rfl))) (pa_cons (pe_callTy (k_tuple G.K rfl) (by rfl) h_tuple bt_tuple (pa_cons (pe_callB (k_sort2 G.K rfl rfl (hu64 hr)) (by rfl) h_sorted bt_sorted (pa_cons (pv 2) pa_nil)) pa_nil)) pa_nil)))))))), ?_⟩
  exact (sim_sseq (sim_sset (SimN.e (sim_nlst sim_anil)))
    (sim_sseq (sim_sfor (sim_iseq (sim_ix sim_var sim_int)) (sim_gseq (sim_gcons (sim_gname (i := 3)) (sim_gcons (sim_gname (i := 4)) sim_gnil))) (sim_sset (sim_add sim_var (SimN.e (sim_nlc (vs := [5]) (sim_iseq (sim_ix sim_var sim_int)) (sim_gname (i := 5)) (by decide) sim_tyes (sim_tup (sim_acons (sim_add (sim_add sim_var sim_str) (sim_ix sim_var sim_int)) (sim_acons (sim_add sim_var (sim_ix sim_var sim_int)) sim_anil))))))))
    (sim_sret (sim_tup (sim_acons (sim_ix sim_var sim_int) (sim_acons (sim_add (sim_ix sim_var sim_int) (sim_ix sim_var sim_int)) (sim_acons (sim_tuple (sim_acons (SimN.e (sim_nsort2 (sim_acons sim_var sim_anil))) sim_anil)) sim_anil)))))))
end
abbrev s27 : Stmt := topS 27
abbrev N27 : List Str := ["_law_mine", "_law_its"]
abbrev P27 : List Str := ["_law_mine", "_law_its"]
theorem sc27 : FnScope N27 P27 (defScope s27) := ⟨rfl, rfl, rfl, by decide +kernel, rfl, by decide +kernel, by decide +kernel⟩
def m_Lword : SS := (sSeq (sIf (tOr' (tB' (eBin dEq (eVar 0) (eC (.str "none")))) (tB' (eBin dEq (eVar 1) (eC (.str "none"))))) (sRet (eC (.str "none"))) sNil)
    (sRet (eIf (tOr' (tB' (eBin dEq (eVar 0) (eC (.str "torn")))) (tB' (eBin dEq (eVar 1) (eC (.str "torn"))))) (eC (.str "torn")) (eBin dAdd (eBin dAdd (eVar 0) (eC (.str "x"))) (eVar 1)))))
def M_Lword : FE := runE 2 2 m_Lword
section
variable {P : Program} {w : World} {G : Gm} {mg : Str → Option Value} {base : Heap} {f : Addr} {fd : FuncData}
theorem ok27 (F : Fun G.K "_law_word" "_law_word" s27 f fd) : FnOk P w G.K mg base CX0 1 f fd P27 (spE G 2 M_Lword) := by
  have nd := sc27.nd
  refine ok_E' F sc27 rfl rfl (fun cdv A outer s H E hr => ?_)
  refine ⟨_, (pss_cons (ps_if (PW.pt (pw_or (pt_cmpR (k_eq G.K rfl (hu64 hr)) (pv 0) pe_str (nomark _)) (pw_or1 (pt_cmpR (k_eq G.K rfl (hu64 hr)) (pv 1) pe_str (nomark _))))) (pss_one (ps_ret pe_str)) pss_nil)
    (pss_one (ps_ret (pe_ifExp (PW.pt (pw_or (pt_cmpR (k_eq G.K rfl (hu64 hr)) (pv 0) pe_str (nomark _)) (pw_or1 (pt_cmpR (k_eq G.K rfl (hu64 hr)) (pv 1) pe_str (nomark _))))) pe_str (pe_op (k_add G.K rfl) (pe_op (k_add G.K rfl) (pv 0) pe_str) (pv 1)))))), ?_⟩
  exact (sim_sseq (sim_sif (sim_tOr (sim_tTest (sim_eq sim_var sim_str)) (sim_tTest (sim_eq sim_var sim_str))) (sim_sret sim_str) sim_snil)
    (sim_sret (sim_tIf (sim_tOr (sim_tTest (sim_eq sim_var sim_str)) (sim_tTest (sim_eq sim_var sim_str))) sim_str (sim_add (sim_add sim_var sim_str) sim_var))))
end
abbrev s28 : Stmt := topS 28
abbrev N28 : List Str := ["_law_one_so", "_law_other_so", "_law_left_so", "_law_great_here", "_law_found", "_law_right_so", "_law_due", "_law_call_so"]
abbrev P28 : List Str := ["_law_one_so", "_law_other_so"]
theorem sc28 : FnScope N28 P28 (defScope s28) := ⟨rfl, rfl, rfl, by decide +kernel, rfl, by decide +kernel, by decide +kernel⟩
def m_Ljoined_right : SS := (sSeq (sMul [3, 4] (aCons (eCall 2 M_Lgreat (aCons (eVar 0) (aCons (eVar 1) aNil))) (aCons (eFr (nLst aNil)) aNil)))
    (sSeq (sFor (iSq (eCall 1 M_Lcalls (aCons (eVar 0) aNil))) (bName 2) (sFor (iSq (eCall 1 M_Lcalls (aCons (eVar 1) aNil))) (bName 5) (sSeq (sNew 6 (nLst (aCons (eCall 2 M_Ljoined (aCons (eCall 2 M_fitting (aCons (eVar 0) (aCons (eVar 2) aNil))) (aCons (eCall 2 M_fitting (aCons (eVar 1) (aCons (eVar 5) aNil))) aNil))) aNil)))
    (sSeq (sDrop (eApp (eVar 6) (eCall 2 M_Ljoined (aCons (eCall 2 M_nearest (aCons (eVar 0) (aCons (eVar 2) aNil))) (aCons (eCall 2 M_nearest (aCons (eVar 1) (aCons (eVar 5) aNil))) aNil)))))
    (sSeq (sDrop (eApp (eVar 6) (eCall 2 M_Lword (aCons (eCall 2 M_chosen (aCons (eVar 0) (aCons (eVar 2) aNil))) (aCons (eCall 2 M_chosen (aCons (eVar 1) (aCons (eVar 5) aNil))) aNil)))))
    (sSeq (sSet 7 (eBin dAdd (eVar 2) (eVar 5)))
    (sSeq (sIf (tNot' (tTru (eCall 2 (M_Lsame 10) (aCons (eFr (nLst (aCons (eCall 2 M_fitting (aCons (eVar 3) (aCons (eVar 7) aNil))) (aCons (eCall 2 M_nearest (aCons (eVar 3) (aCons (eVar 7) aNil))) (aCons (eCall 2 M_chosen (aCons (eVar 3) (aCons (eVar 7) aNil))) aNil))))) (aCons (eVar 6) aNil))))) (sRet (eC (.bl false))) sNil)
    (sSet 4 (eBin dAdd (eVar 4) (eBin dMul (eFr (nLst (aCons (eVar 7) aNil))) (eB dInt (aCons (eBin dEq (eBin dIx (eVar 6) (eC (.int 2))) (eC (.str "torn"))) aNil))))))))))))
    (sRet (eCall 2 (M_Lsame 10) (aCons (eCall 1 M_torn (aCons (eVar 3) aNil)) (aCons (eVar 4) aNil))))))
def M_Ljoined_right : FE := runE 8 2 m_Ljoined_right
section
variable {P : Program} {w : World} {G : Gm} {mg : Str → Option Value} {base : Heap} {f : Addr} {fd : FuncData}
theorem ok28 (F : Fun G.K "_law_joined_right" "_law_joined_right" s28 f fd) (c_24 : Cl P w G.K mg base 2 "_law_calls" P24 (spE G 1 M_Lcalls)) (c_26 : Cl P w G.K mg base 1 "_law_great" P26 (spE G 2 M_Lgreat)) (c_25 : Cl P w G.K mg base 1 "_law_joined" P25 (spE G 2 M_Ljoined)) (c_20 : Cl P w G.K mg base 11 "_law_same" P20 (spE G 2 (M_Lsame 10))) (c_27 : Cl P w G.K mg base 1 "_law_word" P27 (spE G 2 M_Lword)) (c_12 : Cl P w G.K mg base 5 "chosen" P12 (spE G 2 M_chosen)) (c_10 : Cl P w G.K mg base 5 "fitting" P10 (spE G 2 M_fitting)) (c_11 : Cl P w G.K mg base 5 "nearest" P11 (spE G 2 M_nearest)) (c_13 : Cl P w G.K mg base 5 "torn" P13 (spE G 1 M_torn)) (h_int : mg "int" = none) : FnOk P w G.K mg base CX0 12 f fd P28 (spE G 2 M_Ljoined_right) := by
  have nd := sc28.nd
  refine ok_E' F sc28 rfl rfl (fun cdv A outer s H E hr => ?_)
  refine ⟨_, (pss_cons (ps_par (i := 3) (j := 4) rfl nd rfl rfl (by decide) rfl rfl (pa_cons (pe_cl c_26 hr (by decide) (by rfl) (pa_cons (pv 0) (pa_cons (pv 1) pa_nil))) (pa_cons (pe_lst pa_nil) pa_nil)) rfl)
    (pss_cons (ps_for PassesOwn.never rfl (k_seq G.K rfl (pe_cl c_24 hr (by decide) (by rfl) (pa_cons (pv 0) pa_nil))) (pg_name (i := 2) nd rfl (by first | exact Or.inl rfl | exact Or.inr rfl)) (pss_one (ps_for PassesOwn.never rfl (k_seq G.K rfl (pe_cl c_24 hr (by decide) (by rfl) (pa_cons (pv 1) pa_nil))) (pg_name (i := 5) nd rfl (by first | exact Or.inl rfl | exact Or.inr rfl)) (pss_cons (ps_set (i := 6) nd rfl (by first | exact Or.inl rfl | exact Or.inr rfl) (pe_lst (pa_cons (pe_cl c_25 hr (by decide) (by rfl) (pa_cons (pe_cl c_10 hr (by decide) (by rfl) (pa_cons (pv 0) (pa_cons (pv 2) pa_nil))) (pa_cons (pe_cl c_10 hr (by decide) (by rfl) (pa_cons (pv 1) (pa_cons (pv 5) pa_nil))) pa_nil))) pa_nil)))
    (pss_cons (ps_expr (pe_bm PySem.F.plainAttrs_list PySem.F.slot_list_append PySem.F.type_list_append mt_append (pv 6) (pa_cons (pe_cl c_25 hr (by decide) (by rfl) (pa_cons (pe_cl c_11 hr (by decide) (by rfl) (pa_cons (pv 0) (pa_cons (pv 2) pa_nil))) (pa_cons (pe_cl c_11 hr (by decide) (by rfl) (pa_cons (pv 1) (pa_cons (pv 5) pa_nil))) pa_nil))) pa_nil)))
    (pss_cons (ps_expr (pe_bm PySem.F.plainAttrs_list PySem.F.slot_list_append PySem.F.type_list_append mt_append (pv 6) (pa_cons (pe_cl c_27 hr (by decide) (by rfl) (pa_cons (pe_cl c_12 hr (by decide) (by rfl) (pa_cons (pv 0) (pa_cons (pv 2) pa_nil))) (pa_cons (pe_cl c_12 hr (by decide) (by rfl) (pa_cons (pv 1) (pa_cons (pv 5) pa_nil))) pa_nil))) pa_nil)))
    (pss_cons (ps_set (i := 7) nd rfl (by first | exact Or.inl rfl | exact Or.inr rfl) (pe_op (k_add G.K rfl) (pv 2) (pv 5)))
    (pss_cons (ps_if (pt_not (k_truth G.K rfl (pe_cl c_20 hr (by decide) (by rfl) (pa_cons (pe_lst (pa_cons (pe_cl c_10 hr (by decide) (by rfl) (pa_cons (pv 3) (pa_cons (pv 7) pa_nil))) (pa_cons (pe_cl c_11 hr (by decide) (by rfl) (pa_cons (pv 3) (pa_cons (pv 7) pa_nil))) (pa_cons (pe_cl c_12 hr (by decide) (by rfl) (pa_cons (pv 3) (pa_cons (pv 7) pa_nil))) pa_nil)))) (pa_cons (pv 6) pa_nil))) (fun _ => rfl))) (pss_one (ps_ret pe_bl)) pss_nil)
    (pss_one (ps_set (i := 4) nd rfl (by first | exact Or.inl rfl | exact Or.inr rfl) (pe_op (k_add G.K rfl) (pv 4) (pe_op op_mul0 (pe_lst (pa_cons (pv 7) pa_nil)) (pe_callTy call_int1 (by rfl) h_int bt_int (pa_cons (pe_cmpR (k_eq G.K rfl (hu64 hr)) (pe_ix (k_ix G.K rfl (hu1 hr)) (pv 6) pe_int (fun _ _ => rfl)) pe_str (nomark _)) pa_nil))))))))))))))
    (pss_one (ps_ret (pe_cl c_20 hr (by decide) (by rfl) (pa_cons (pe_cl c_13 hr (by decide) (by rfl) (pa_cons (pv 3) pa_nil)) (pa_cons (pv 4) pa_nil))))))), ?_⟩
  exact (sim_sseq (sim_spar (sim_agcons (sim_call (sim_acons sim_var (sim_acons sim_var sim_anil))) (sim_agcons (SimN.e (sim_nlst sim_anil)) sim_agnil)))
    (sim_sseq (sim_sfor (sim_iseq (sim_call (sim_acons sim_var sim_anil))) (sim_gname (i := 2)) (sim_sfor (sim_iseq (sim_call (sim_acons sim_var sim_anil))) (sim_gname (i := 5)) (sim_sseq (sim_snew (sim_nlst (sim_acons (sim_call (sim_acons (sim_call (sim_acons sim_var (sim_acons sim_var sim_anil))) (sim_acons (sim_call (sim_acons sim_var (sim_acons sim_var sim_anil))) sim_anil))) sim_anil)))
    (sim_sseq (sim_sdrop (sim_app sim_var (sim_call (sim_acons (sim_call (sim_acons sim_var (sim_acons sim_var sim_anil))) (sim_acons (sim_call (sim_acons sim_var (sim_acons sim_var sim_anil))) sim_anil)))))
    (sim_sseq (sim_sdrop (sim_app sim_var (sim_call (sim_acons (sim_call (sim_acons sim_var (sim_acons sim_var sim_anil))) (sim_acons (sim_call (sim_acons sim_var (sim_acons sim_var sim_anil))) sim_anil)))))
    (sim_sseq (sim_sset (sim_add sim_var sim_var))
    (sim_sseq (sim_sif (sim_tNot (sim_tTru (sim_call (sim_acons (SimN.e (sim_nlst (sim_acons (sim_call (sim_acons sim_var (sim_acons sim_var sim_anil))) (sim_acons (sim_call (sim_acons sim_var (sim_acons sim_var sim_anil))) (sim_acons (sim_call (sim_acons sim_var (sim_acons sim_var sim_anil))) sim_anil))))) (sim_acons sim_var sim_anil))))) (sim_sret sim_bl) sim_snil)
    (sim_sset (sim_add sim_var (sim_mul (SimN.e (sim_nlst (sim_acons sim_var sim_anil))) (sim_int' (sim_acons (sim_eq (sim_ix sim_var sim_int) sim_str) sim_anil))))))))))))
    (sim_sret (sim_call (sim_acons (sim_call (sim_acons sim_var sim_anil)) (sim_acons sim_var sim_anil))))))
end
abbrev s29 : Stmt := topS 29
abbrev N29 : List Str := ["_law_box_here", "_law_kinds_so", "_law_one_so", "_law_other_so", "_law_few"]
abbrev P29 : List Str := ["_law_box_here"]
theorem sc29 : FnScope N29 P29 (defScope s29) := ⟨rfl, rfl, rfl, by decide +kernel, rfl, by decide +kernel, by decide +kernel⟩
def m_Lright : SS := (sSeq (sSet 1 (eCall 3 M_Lkinds (aCons (eVar 0) (aCons (eBin dAdd (eC (.int 3)) (eCall 2 M_Ltake (aCons (eVar 0) (aCons (eC (.int 3)) aNil)))) (aCons (eC (.int 2)) aNil)))))
    (sSeq (sSet 2 (eTup (aCons (eVar 1) (aCons (eC (.int 1)) (aCons (eCall 4 M_Lmethods (aCons (eVar 0) (aCons (eVar 1) (aCons (eC (.int 1)) (aCons (eBin dAdd (eC (.int 2)) (eCall 2 M_Ltake (aCons (eVar 0) (aCons (eC (.int 2)) aNil)))) aNil))))) aNil)))))
    (sSeq (sSet 3 (eTup (aCons (eVar 1) (aCons (eC (.int 1)) (aCons (eCall 4 M_Lmethods (aCons (eVar 0) (aCons (eVar 1) (aCons (eC (.int 1)) (aCons (eC (.int 2)) aNil))))) aNil)))))
    (sSeq (sIf (tNot' (tTru (eCall 2 M_Ljoined_right (aCons (eVar 2) (aCons (eVar 3) aNil))))) (sRet (eC (.bl false))) sNil)
    (sSeq (sSet 4 (eSl (eVar 1) oNone (oSome (eC (.int 3)))))
    (sSeq (sSet 2 (eTup (aCons (eVar 4) (aCons (eC (.int 2)) (aCons (eCall 4 M_Lmethods (aCons (eVar 0) (aCons (eVar 4) (aCons (eC (.int 2)) (aCons (eC (.int 3)) aNil))))) aNil)))))
    (sSeq (sSet 3 (eTup (aCons (eVar 4) (aCons (eC (.int 1)) (aCons (eCall 4 M_Lmethods (aCons (eVar 0) (aCons (eVar 4) (aCons (eC (.int 1)) (aCons (eC (.int 2)) aNil))))) aNil)))))
    (sRet (eCall 2 M_Ljoined_right (aCons (eVar 2) (aCons (eVar 3) aNil)))))))))))
def M_Lright : FE := runE 5 1 m_Lright
section
variable {P : Program} {w : World} {G : Gm} {mg : Str → Option Value} {base : Heap} {f : Addr} {fd : FuncData}
theorem ok29 (F : Fun G.K "_law_right" "_law_right" s29 f fd) (c_28 : Cl P w G.K mg base 12 "_law_joined_right" P28 (spE G 2 M_Ljoined_right)) (c_21 : Cl P w G.K mg base 3 "_law_kinds" P21 (spE G 3 M_Lkinds)) (c_23 : Cl P w G.K mg base 2 "_law_methods" P23 (spE G 4 M_Lmethods)) (c_17 : Cl P w G.K mg base 1 "_law_take" P17 (spE G 2 M_Ltake)) : FnOk P w G.K mg base CX0 13 f fd P29 (spE G 1 M_Lright) := by
  have nd := sc29.nd
  refine ok_E' F sc29 rfl rfl (fun cdv A outer s H E hr => ?_)
  refine ⟨_, (pss_cons (ps_set (i := 1) nd rfl (by first | exact Or.inl rfl | exact Or.inr rfl) (pe_cl c_21 hr (by decide) (by rfl) (pa_cons (pv 0) (pa_cons (pe_op (k_add G.K rfl) pe_int (pe_cl c_17 hr (by decide) (by rfl) (pa_cons (pv 0) (pa_cons pe_int pa_nil)))) (pa_cons pe_int pa_nil)))))
    (pss_cons (ps_set (i := 2) nd rfl (by first | exact Or.inl rfl | exact Or.inr rfl) (pe_tup (pa_cons (pv 1) (pa_cons pe_int (pa_cons (pe_cl c_23 hr (by decide) (by rfl) (pa_cons (pv 0) (pa_cons (pv 1) (pa_cons pe_int (pa_cons (pe_op (k_add G.K rfl) pe_int (pe_cl c_17 hr (by decide) (by rfl) (pa_cons (pv 0) (pa_cons pe_int pa_nil)))) pa_nil))))) pa_nil)))))
    (pss_cons (ps_set (i := 3) nd rfl (by first | exact Or.inl rfl | exact Or.inr rfl) (pe_tup (pa_cons (pv 1) (pa_cons pe_int (pa_cons (pe_cl c_23 hr (by decide) (by rfl) (pa_cons (pv 0) (pa_cons (pv 1) (pa_cons pe_int (pa_cons pe_int pa_nil))))) pa_nil)))))
    (pss_cons (ps_if (pt_not (k_truth G.K rfl (pe_cl c_28 hr (by decide) (by rfl) (pa_cons (pv 2) (pa_cons (pv 3) pa_nil))) (fun _ => rfl))) (pss_one (ps_ret pe_bl)) pss_nil)
    (pss_cons (ps_set (i := 4) nd rfl (by first | exact Or.inl rfl | exact Or.inr rfl) (pe_slice (k_sl G.K rfl) (pv 1) po_none (po_some pe_int)))
    (pss_cons (ps_set (i := 2) nd rfl (by first | exact Or.inl rfl | exact Or.inr rfl) (pe_tup (pa_cons (pv 4) (pa_cons pe_int (pa_cons (pe_cl c_23 hr (by decide) (by rfl) (pa_cons (pv 0) (pa_cons (pv 4) (pa_cons pe_int (pa_cons pe_int pa_nil))))) pa_nil)))))
    (pss_cons (ps_set (i := 3) nd rfl (by first | exact Or.inl rfl | exact Or.inr rfl) (pe_tup (pa_cons (pv 4) (pa_cons pe_int (pa_cons (pe_cl c_23 hr (by decide) (by rfl) (pa_cons (pv 0) (pa_cons (pv 4) (pa_cons pe_int (pa_cons pe_int pa_nil))))) pa_nil)))))
    (pss_one (ps_ret (pe_cl c_28 hr (by decide) (by rfl) (pa_cons (pv 2) (pa_cons (pv 3) pa_nil)))))))))))), ?_⟩
  exact (sim_sseq (sim_sset (sim_call (sim_acons sim_var (sim_acons (sim_add sim_int (sim_call (sim_acons sim_var (sim_acons sim_int sim_anil)))) (sim_acons sim_int sim_anil)))))
    (sim_sseq (sim_sset (sim_tup (sim_acons sim_var (sim_acons sim_int (sim_acons (sim_call (sim_acons sim_var (sim_acons sim_var (sim_acons sim_int (sim_acons (sim_add sim_int (sim_call (sim_acons sim_var (sim_acons sim_int sim_anil)))) sim_anil))))) sim_anil)))))
    (sim_sseq (sim_sset (sim_tup (sim_acons sim_var (sim_acons sim_int (sim_acons (sim_call (sim_acons sim_var (sim_acons sim_var (sim_acons sim_int (sim_acons sim_int sim_anil))))) sim_anil)))))
    (sim_sseq (sim_sif (sim_tNot (sim_tTru (sim_call (sim_acons sim_var (sim_acons sim_var sim_anil))))) (sim_sret sim_bl) sim_snil)
    (sim_sseq (sim_sset (sim_sl sim_var sim_onone (sim_osome sim_int)))
    (sim_sseq (sim_sset (sim_tup (sim_acons sim_var (sim_acons sim_int (sim_acons (sim_call (sim_acons sim_var (sim_acons sim_var (sim_acons sim_int (sim_acons sim_int sim_anil))))) sim_anil)))))
    (sim_sseq (sim_sset (sim_tup (sim_acons sim_var (sim_acons sim_int (sim_acons (sim_call (sim_acons sim_var (sim_acons sim_var (sim_acons sim_int (sim_acons sim_int sim_anil))))) sim_anil)))))
    (sim_sret (sim_call (sim_acons sim_var (sim_acons sim_var sim_anil)))))))))))
end
abbrev s30 : Stmt := topS 30
abbrev N30 : List Str := ["_law_script", "_law_cells_here", "_law_k"]
abbrev P30 : List Str := ["_law_script"]
theorem sc30 : FnScope N30 P30 (defScope s30) := ⟨rfl, rfl, rfl, by decide +kernel, rfl, by decide +kernel, by decide +kernel⟩
def m_law : SS := (sSeq (sSet 1 (eCall 2 M_Lcells (aCons (eVar 0) (aCons (eC (.int 2)) aNil))))
    (sRet (eB dAll (aCons (eFr (nLc (iRg1 (aCons (eB dLen (aCons (eVar 1) aNil)) aNil)) (bName 2) tYes' (eCallG 1 M_Lright (aNew (nCall 2 M_Lbox (aCons (eVar 1) (aCons (eVar 2) aNil))) aNil)) [2])) aNil))))
def M_law : FE := runE 3 1 m_law
section
variable {P : Program} {w : World} {G : Gm} {mg : Str → Option Value} {base : Heap} {f : Addr} {fd : FuncData}
theorem ok30 (F : Fun G.K "law" "law" s30 f fd) (c_16 : Cl P w G.K mg base 1 "_law_box" P16 (spN G 2 M_Lbox)) (c_18 : Cl P w G.K mg base 1 "_law_cells" P18 (spE G 2 M_Lcells)) (c_29 : Cl P w G.K mg base 13 "_law_right" P29 (spE G 1 M_Lright)) (h_all : mg "all" = none) (h_len : mg "len" = none) (h_range : mg "range" = none) : FnOk P w G.K mg base CX0 14 f fd P30 (spE G 1 M_law) := by
  have nd := sc30.nd
  refine ok_E' F sc30 rfl rfl (fun cdv A outer s H E hr => ?_)
  refine ⟨_, (pss_cons (ps_set (i := 1) nd rfl (by first | exact Or.inl rfl | exact Or.inr rfl) (pe_cl c_18 hr (by decide) (by rfl) (pa_cons (pv 0) (pa_cons pe_int pa_nil))))
    (pss_one (ps_ret (pe_callB (k_all G.K rfl rfl) (by rfl) h_all bt_all (pa_cons (pe_lc (own := [("_law_k", 2)]) rfl nd (pi_range1 (by rfl) h_range (pa_cons (pe_callB (k_len G.K rfl) (by rfl) h_len bt_len (pa_cons (pv 1) pa_nil)) pa_nil)) (blkOk_by (own := [("_law_k", 2)]) (N := N30) (sc := defScope s30) (by decide +kernel)) (fun _ _ _ _ _ => (pg_name (i := 2) nd rfl (Or.inl rfl))) (fun _ _ _ _ _ => pts_nil) (fun _ _ _ _ _ => (pe_cl c_29 hr (by decide) (by rfl) (pa_cons (pe_cl c_16 hr (by decide) (by rfl) (pa_cons (pv 1) (pa_cons (pv 2) pa_nil))) pa_nil)))) pa_nil))))), ?_⟩
  exact (sim_sseq (sim_sset (sim_call (sim_acons sim_var (sim_acons sim_int sim_anil))))
    (sim_sret (sim_all (sim_acons (SimN.e (sim_nlc (vs := [2]) (sim_irg1 (sim_acons (sim_len (sim_acons sim_var sim_anil)) sim_anil)) (sim_gname (i := 2)) (by decide) sim_tyes (sim_callG (sim_agnew (sim_ncall (sim_acons sim_var (sim_acons sim_var sim_anil))) sim_agnil)))) sim_anil))))
end
set_option maxHeartbeats 4000000 in
theorem all_mk {l : PySem.W.OpenLaw} {w : World} {K : PySem.W.Frag} {h : Heap} {mg : Str → Option Value} {fa f2 f3 f4 f6 f8x3 f8x1 f8x0 f10 f8x4 f11 f8x5 f12 f14 f13 f16 f17 f18 f19 f20 f21 f22 f23 f24 f25 f26 f27 f28 f29 f30 CT_Table : Addr} (X : K.In h) (G0 : h.Ns mainGlobals mg) (hfa : mg "law" = some (.ref fa))
  {od2 an2 : Option Addr} {sl2 : Array (Option Value)} {oc2 kv2 dc2 pm2 cd2 ct2 : Value}
  (a2 : PySem.W.nsIn K mainGlobals "uppers" = some (some (.ref f2)))
  (l2 : K.lookup f2 = some ⟨oc2, od2, .func (PySem.W.fnOf "uppers" "uppers" (defArgs s2) (defBody s2) (defScope s2) .none kv2 dc2 pm2 an2 cd2 ct2), sl2⟩)
  (c2 : PySem.W.codeIn K cd2 "uppers" = true) (k2 : PySem.W.keepIn K (.ref f2) = true)
  {od3 an3 : Option Addr} {sl3 : Array (Option Value)} {oc3 kv3 dc3 pm3 cd3 ct3 : Value}
  (a3 : PySem.W.nsIn K mainGlobals "is_shape_below" = some (some (.ref f3)))
  (l3 : K.lookup f3 = some ⟨oc3, od3, .func (PySem.W.fnOf "is_shape_below" "is_shape_below" (defArgs s3) (defBody s3) (defScope s3) .none kv3 dc3 pm3 an3 cd3 ct3), sl3⟩)
  (c3 : PySem.W.codeIn K cd3 "is_shape_below" = true) (k3 : PySem.W.keepIn K (.ref f3) = true)
  {od4 an4 : Option Addr} {sl4 : Array (Option Value)} {oc4 kv4 dc4 pm4 cd4 ct4 : Value}
  (a4 : PySem.W.nsIn K mainGlobals "every_choice" = some (some (.ref f4)))
  (l4 : K.lookup f4 = some ⟨oc4, od4, .func (PySem.W.fnOf "every_choice" "every_choice" (defArgs s4) (defBody s4) (defScope s4) .none kv4 dc4 pm4 an4 cd4 ct4), sl4⟩)
  (c4 : PySem.W.codeIn K cd4 "every_choice" = true) (k4 : PySem.W.keepIn K (.ref f4) = true)
  {od6 an6 : Option Addr} {sl6 : Array (Option Value)} {oc6 kv6 dc6 pm6 cd6 ct6 : Value}
  (a6 : PySem.W.nsIn K mainGlobals "shapes" = some (some (.ref f6)))
  (l6 : K.lookup f6 = some ⟨oc6, od6, .func (PySem.W.fnOf "shapes" "shapes" (defArgs s6) (defBody s6) (defScope s6) .none kv6 dc6 pm6 an6 cd6 ct6), sl6⟩)
  (c6 : PySem.W.codeIn K cd6 "shapes" = true) (k6 : PySem.W.keepIn K (.ref f6) = true)
  {od8x3 an8x3 : Option Addr} {sl8x3 : Array (Option Value)} {oc8x3 kv8x3 dc8x3 pm8x3 cd8x3 ct8x3 : Value}
  (a8x3 : PySem.W.findIn K (.ref CT_Table) "fitting" = some (some (.ref f8x3))) (i8x3 : PySem.W.isFn K (.ref f8x3) = true)
  (l8x3 : K.lookup f8x3 = some ⟨oc8x3, od8x3, .func (PySem.W.fnOf "fitting" "Table.fitting" (defArgs s8x3) (defBody s8x3) (defScope s8x3) .none kv8x3 dc8x3 pm8x3 an8x3 cd8x3 ct8x3), sl8x3⟩)
  (c8x3 : PySem.W.codeIn K cd8x3 "Table.fitting" = true) (k8x3 : PySem.W.keepIn K (.ref f8x3) = true)
  {od8x1 an8x1 : Option Addr} {sl8x1 : Array (Option Value)} {oc8x1 kv8x1 dc8x1 pm8x1 cd8x1 ct8x1 : Value}
  (a8x1 : PySem.W.findIn K (.ref CT_Table) "_nearer_than" = some (some (.ref f8x1))) (i8x1 : PySem.W.isFn K (.ref f8x1) = true)
  (l8x1 : K.lookup f8x1 = some ⟨oc8x1, od8x1, .func (PySem.W.fnOf "_nearer_than" "Table._nearer_than" (defArgs s8x1) (defBody s8x1) (defScope s8x1) .none kv8x1 dc8x1 pm8x1 an8x1 cd8x1 ct8x1), sl8x1⟩)
  (c8x1 : PySem.W.codeIn K cd8x1 "Table._nearer_than" = true) (k8x1 : PySem.W.keepIn K (.ref f8x1) = true)
  {od8x0 an8x0 : Option Addr} {sl8x0 : Array (Option Value)} {oc8x0 kv8x0 dc8x0 pm8x0 cd8x0 ct8x0 : Value}
  (a8x0 : PySem.W.findIn K (.ref CT_Table) "__init__" = some (some (.ref f8x0))) (i8x0 : PySem.W.isFn K (.ref f8x0) = true)
  (l8x0 : K.lookup f8x0 = some ⟨oc8x0, od8x0, .func (PySem.W.fnOf "__init__" "Table.__init__" (defArgs s8x0) (defBody s8x0) (defScope s8x0) .none kv8x0 dc8x0 pm8x0 an8x0 cd8x0 ct8x0), sl8x0⟩)
  (c8x0 : PySem.W.codeIn K cd8x0 "Table.__init__" = true) (k8x0 : PySem.W.keepIn K (.ref f8x0) = true)
  {od10 an10 : Option Addr} {sl10 : Array (Option Value)} {oc10 kv10 dc10 pm10 cd10 ct10 : Value}
  (a10 : PySem.W.nsIn K mainGlobals "fitting" = some (some (.ref f10)))
  (l10 : K.lookup f10 = some ⟨oc10, od10, .func (PySem.W.fnOf "fitting" "fitting" (defArgs s10) (defBody s10) (defScope s10) .none kv10 dc10 pm10 an10 cd10 ct10), sl10⟩)
  (c10 : PySem.W.codeIn K cd10 "fitting" = true) (k10 : PySem.W.keepIn K (.ref f10) = true)
  {od8x4 an8x4 : Option Addr} {sl8x4 : Array (Option Value)} {oc8x4 kv8x4 dc8x4 pm8x4 cd8x4 ct8x4 : Value}
  (a8x4 : PySem.W.findIn K (.ref CT_Table) "nearest" = some (some (.ref f8x4))) (i8x4 : PySem.W.isFn K (.ref f8x4) = true)
  (l8x4 : K.lookup f8x4 = some ⟨oc8x4, od8x4, .func (PySem.W.fnOf "nearest" "Table.nearest" (defArgs s8x4) (defBody s8x4) (defScope s8x4) .none kv8x4 dc8x4 pm8x4 an8x4 cd8x4 ct8x4), sl8x4⟩)
  (c8x4 : PySem.W.codeIn K cd8x4 "Table.nearest" = true) (k8x4 : PySem.W.keepIn K (.ref f8x4) = true)
  {od11 an11 : Option Addr} {sl11 : Array (Option Value)} {oc11 kv11 dc11 pm11 cd11 ct11 : Value}
  (a11 : PySem.W.nsIn K mainGlobals "nearest" = some (some (.ref f11)))
  (l11 : K.lookup f11 = some ⟨oc11, od11, .func (PySem.W.fnOf "nearest" "nearest" (defArgs s11) (defBody s11) (defScope s11) .none kv11 dc11 pm11 an11 cd11 ct11), sl11⟩)
  (c11 : PySem.W.codeIn K cd11 "nearest" = true) (k11 : PySem.W.keepIn K (.ref f11) = true)
  {od8x5 an8x5 : Option Addr} {sl8x5 : Array (Option Value)} {oc8x5 kv8x5 dc8x5 pm8x5 cd8x5 ct8x5 : Value}
  (a8x5 : PySem.W.findIn K (.ref CT_Table) "chosen" = some (some (.ref f8x5))) (i8x5 : PySem.W.isFn K (.ref f8x5) = true)
  (l8x5 : K.lookup f8x5 = some ⟨oc8x5, od8x5, .func (PySem.W.fnOf "chosen" "Table.chosen" (defArgs s8x5) (defBody s8x5) (defScope s8x5) .none kv8x5 dc8x5 pm8x5 an8x5 cd8x5 ct8x5), sl8x5⟩)
  (c8x5 : PySem.W.codeIn K cd8x5 "Table.chosen" = true) (k8x5 : PySem.W.keepIn K (.ref f8x5) = true)
  {od12 an12 : Option Addr} {sl12 : Array (Option Value)} {oc12 kv12 dc12 pm12 cd12 ct12 : Value}
  (a12 : PySem.W.nsIn K mainGlobals "chosen" = some (some (.ref f12)))
  (l12 : K.lookup f12 = some ⟨oc12, od12, .func (PySem.W.fnOf "chosen" "chosen" (defArgs s12) (defBody s12) (defScope s12) .none kv12 dc12 pm12 an12 cd12 ct12), sl12⟩)
  (c12 : PySem.W.codeIn K cd12 "chosen" = true) (k12 : PySem.W.keepIn K (.ref f12) = true)
  {od14 an14 : Option Addr} {sl14 : Array (Option Value)} {oc14 kv14 dc14 pm14 cd14 ct14 : Value}
  (a14 : PySem.W.nsIn K mainGlobals "_torn_calls" = some (some (.ref f14)))
  (l14 : K.lookup f14 = some ⟨oc14, od14, .func (PySem.W.fnOf "_torn_calls" "_torn_calls" (defArgs s14) (defBody s14) (defScope s14) .none kv14 dc14 pm14 an14 cd14 ct14), sl14⟩)
  (c14 : PySem.W.codeIn K cd14 "_torn_calls" = true) (k14 : PySem.W.keepIn K (.ref f14) = true)
  {od13 an13 : Option Addr} {sl13 : Array (Option Value)} {oc13 kv13 dc13 pm13 cd13 ct13 : Value}
  (a13 : PySem.W.nsIn K mainGlobals "torn" = some (some (.ref f13)))
  (l13 : K.lookup f13 = some ⟨oc13, od13, .func (PySem.W.fnOf "torn" "torn" (defArgs s13) (defBody s13) (defScope s13) .none kv13 dc13 pm13 an13 cd13 ct13), sl13⟩)
  (c13 : PySem.W.codeIn K cd13 "torn" = true) (k13 : PySem.W.keepIn K (.ref f13) = true)
  {od16 an16 : Option Addr} {sl16 : Array (Option Value)} {oc16 kv16 dc16 pm16 cd16 ct16 : Value}
  (a16 : PySem.W.nsIn K mainGlobals "_law_box" = some (some (.ref f16)))
  (l16 : K.lookup f16 = some ⟨oc16, od16, .func (PySem.W.fnOf "_law_box" "_law_box" (defArgs s16) (defBody s16) (defScope s16) .none kv16 dc16 pm16 an16 cd16 ct16), sl16⟩)
  (c16 : PySem.W.codeIn K cd16 "_law_box" = true) (k16 : PySem.W.keepIn K (.ref f16) = true)
  {od17 an17 : Option Addr} {sl17 : Array (Option Value)} {oc17 kv17 dc17 pm17 cd17 ct17 : Value}
  (a17 : PySem.W.nsIn K mainGlobals "_law_take" = some (some (.ref f17)))
  (l17 : K.lookup f17 = some ⟨oc17, od17, .func (PySem.W.fnOf "_law_take" "_law_take" (defArgs s17) (defBody s17) (defScope s17) .none kv17 dc17 pm17 an17 cd17 ct17), sl17⟩)
  (c17 : PySem.W.codeIn K cd17 "_law_take" = true) (k17 : PySem.W.keepIn K (.ref f17) = true)
  {od18 an18 : Option Addr} {sl18 : Array (Option Value)} {oc18 kv18 dc18 pm18 cd18 ct18 : Value}
  (a18 : PySem.W.nsIn K mainGlobals "_law_cells" = some (some (.ref f18)))
  (l18 : K.lookup f18 = some ⟨oc18, od18, .func (PySem.W.fnOf "_law_cells" "_law_cells" (defArgs s18) (defBody s18) (defScope s18) .none kv18 dc18 pm18 an18 cd18 ct18), sl18⟩)
  (c18 : PySem.W.codeIn K cd18 "_law_cells" = true) (k18 : PySem.W.keepIn K (.ref f18) = true)
  {od19 an19 : Option Addr} {sl19 : Array (Option Value)} {oc19 kv19 dc19 pm19 cd19 ct19 : Value}
  (a19 : PySem.W.nsIn K mainGlobals "_law_of" = some (some (.ref f19)))
  (l19 : K.lookup f19 = some ⟨oc19, od19, .func (PySem.W.fnOf "_law_of" "_law_of" (defArgs s19) (defBody s19) (defScope s19) .none kv19 dc19 pm19 an19 cd19 ct19), sl19⟩)
  (c19 : PySem.W.codeIn K cd19 "_law_of" = true) (k19 : PySem.W.keepIn K (.ref f19) = true)
  {od20 an20 : Option Addr} {sl20 : Array (Option Value)} {oc20 kv20 dc20 pm20 cd20 ct20 : Value}
  (a20 : PySem.W.nsIn K mainGlobals "_law_same" = some (some (.ref f20)))
  (l20 : K.lookup f20 = some ⟨oc20, od20, .func (PySem.W.fnOf "_law_same" "_law_same" (defArgs s20) (defBody s20) (defScope s20) .none kv20 dc20 pm20 an20 cd20 ct20), sl20⟩)
  (c20 : PySem.W.codeIn K cd20 "_law_same" = true) (k20 : PySem.W.keepIn K (.ref f20) = true)
  {od21 an21 : Option Addr} {sl21 : Array (Option Value)} {oc21 kv21 dc21 pm21 cd21 ct21 : Value}
  (a21 : PySem.W.nsIn K mainGlobals "_law_kinds" = some (some (.ref f21)))
  (l21 : K.lookup f21 = some ⟨oc21, od21, .func (PySem.W.fnOf "_law_kinds" "_law_kinds" (defArgs s21) (defBody s21) (defScope s21) .none kv21 dc21 pm21 an21 cd21 ct21), sl21⟩)
  (c21 : PySem.W.codeIn K cd21 "_law_kinds" = true) (k21 : PySem.W.keepIn K (.ref f21) = true)
  {od22 an22 : Option Addr} {sl22 : Array (Option Value)} {oc22 kv22 dc22 pm22 cd22 ct22 : Value}
  (a22 : PySem.W.nsIn K mainGlobals "_law_shapes" = some (some (.ref f22)))
  (l22 : K.lookup f22 = some ⟨oc22, od22, .func (PySem.W.fnOf "_law_shapes" "_law_shapes" (defArgs s22) (defBody s22) (defScope s22) .none kv22 dc22 pm22 an22 cd22 ct22), sl22⟩)
  (c22 : PySem.W.codeIn K cd22 "_law_shapes" = true) (k22 : PySem.W.keepIn K (.ref f22) = true)
  {od23 an23 : Option Addr} {sl23 : Array (Option Value)} {oc23 kv23 dc23 pm23 cd23 ct23 : Value}
  (a23 : PySem.W.nsIn K mainGlobals "_law_methods" = some (some (.ref f23)))
  (l23 : K.lookup f23 = some ⟨oc23, od23, .func (PySem.W.fnOf "_law_methods" "_law_methods" (defArgs s23) (defBody s23) (defScope s23) .none kv23 dc23 pm23 an23 cd23 ct23), sl23⟩)
  (c23 : PySem.W.codeIn K cd23 "_law_methods" = true) (k23 : PySem.W.keepIn K (.ref f23) = true)
  {od24 an24 : Option Addr} {sl24 : Array (Option Value)} {oc24 kv24 dc24 pm24 cd24 ct24 : Value}
  (a24 : PySem.W.nsIn K mainGlobals "_law_calls" = some (some (.ref f24)))
  (l24 : K.lookup f24 = some ⟨oc24, od24, .func (PySem.W.fnOf "_law_calls" "_law_calls" (defArgs s24) (defBody s24) (defScope s24) .none kv24 dc24 pm24 an24 cd24 ct24), sl24⟩)
  (c24 : PySem.W.codeIn K cd24 "_law_calls" = true) (k24 : PySem.W.keepIn K (.ref f24) = true)
  {od25 an25 : Option Addr} {sl25 : Array (Option Value)} {oc25 kv25 dc25 pm25 cd25 ct25 : Value}
  (a25 : PySem.W.nsIn K mainGlobals "_law_joined" = some (some (.ref f25)))
  (l25 : K.lookup f25 = some ⟨oc25, od25, .func (PySem.W.fnOf "_law_joined" "_law_joined" (defArgs s25) (defBody s25) (defScope s25) .none kv25 dc25 pm25 an25 cd25 ct25), sl25⟩)
  (c25 : PySem.W.codeIn K cd25 "_law_joined" = true) (k25 : PySem.W.keepIn K (.ref f25) = true)
  {od26 an26 : Option Addr} {sl26 : Array (Option Value)} {oc26 kv26 dc26 pm26 cd26 ct26 : Value}
  (a26 : PySem.W.nsIn K mainGlobals "_law_great" = some (some (.ref f26)))
  (l26 : K.lookup f26 = some ⟨oc26, od26, .func (PySem.W.fnOf "_law_great" "_law_great" (defArgs s26) (defBody s26) (defScope s26) .none kv26 dc26 pm26 an26 cd26 ct26), sl26⟩)
  (c26 : PySem.W.codeIn K cd26 "_law_great" = true) (k26 : PySem.W.keepIn K (.ref f26) = true)
  {od27 an27 : Option Addr} {sl27 : Array (Option Value)} {oc27 kv27 dc27 pm27 cd27 ct27 : Value}
  (a27 : PySem.W.nsIn K mainGlobals "_law_word" = some (some (.ref f27)))
  (l27 : K.lookup f27 = some ⟨oc27, od27, .func (PySem.W.fnOf "_law_word" "_law_word" (defArgs s27) (defBody s27) (defScope s27) .none kv27 dc27 pm27 an27 cd27 ct27), sl27⟩)
  (c27 : PySem.W.codeIn K cd27 "_law_word" = true) (k27 : PySem.W.keepIn K (.ref f27) = true)
  {od28 an28 : Option Addr} {sl28 : Array (Option Value)} {oc28 kv28 dc28 pm28 cd28 ct28 : Value}
  (a28 : PySem.W.nsIn K mainGlobals "_law_joined_right" = some (some (.ref f28)))
  (l28 : K.lookup f28 = some ⟨oc28, od28, .func (PySem.W.fnOf "_law_joined_right" "_law_joined_right" (defArgs s28) (defBody s28) (defScope s28) .none kv28 dc28 pm28 an28 cd28 ct28), sl28⟩)
  (c28 : PySem.W.codeIn K cd28 "_law_joined_right" = true) (k28 : PySem.W.keepIn K (.ref f28) = true)
  {od29 an29 : Option Addr} {sl29 : Array (Option Value)} {oc29 kv29 dc29 pm29 cd29 ct29 : Value}
  (a29 : PySem.W.nsIn K mainGlobals "_law_right" = some (some (.ref f29)))
  (l29 : K.lookup f29 = some ⟨oc29, od29, .func (PySem.W.fnOf "_law_right" "_law_right" (defArgs s29) (defBody s29) (defScope s29) .none kv29 dc29 pm29 an29 cd29 ct29), sl29⟩)
  (c29 : PySem.W.codeIn K cd29 "_law_right" = true) (k29 : PySem.W.keepIn K (.ref f29) = true)
  {od30 an30 : Option Addr} {sl30 : Array (Option Value)} {oc30 kv30 dc30 pm30 cd30 ct30 : Value}
  (a30 : PySem.W.nsIn K mainGlobals "law" = some (some (.ref f30)))
  (l30 : K.lookup f30 = some ⟨oc30, od30, .func (PySem.W.fnOf "law" "law" (defArgs s30) (defBody s30) (defScope s30) .none kv30 dc30 pm30 an30 cd30 ct30), sl30⟩)
  (c30 : PySem.W.codeIn K cd30 "law" = true) (k30 : PySem.W.keepIn K (.ref f30) = true)
  (aC_Table : PySem.W.nsIn K mainGlobals "Table" = some (some (.ref CT_Table))) (pg_Table : PySem.W.plainGet K CT_Table Str.empty = true) (hd_Table : PySem.W.hasDictIn K CT_Table = true) (po_Table : PySem.W.plainOver K CT_Table = true) (sa_Table : PySem.W.findIn K (.ref CT_Table) "__setattr__" = some (some (.builtin "object.__setattr__"))) (mk_Table : PySem.W.makesIn K CT_Table = true) (kc_Table : PySem.W.keepIn K (.ref CT_Table) = true)
  (n_Table_above : PySem.W.findIn K (.ref CT_Table) "above" = some none)
  (n_Table_kinds : PySem.W.findIn K (.ref CT_Table) "kinds" = some none)
  (n_Table_methods : PySem.W.findIn K (.ref CT_Table) "methods" = some none)
  (n_Table_nearer : PySem.W.findIn K (.ref CT_Table) "nearer" = some none)
  (z_abs : PySem.W.nsIn K mainGlobals "abs" = some none)
  (z_all : PySem.W.nsIn K mainGlobals "all" = some none)
  (z_any : PySem.W.nsIn K mainGlobals "any" = some none)
  (z_bool : PySem.W.nsIn K mainGlobals "bool" = some none)
  (z_enumerate : PySem.W.nsIn K mainGlobals "enumerate" = some none)
  (z_int : PySem.W.nsIn K mainGlobals "int" = some none)
  (z_isinstance : PySem.W.nsIn K mainGlobals "isinstance" = some none)
  (z_len : PySem.W.nsIn K mainGlobals "len" = some none)
  (z_list : PySem.W.nsIn K mainGlobals "list" = some none)
  (z_range : PySem.W.nsIn K mainGlobals "range" = some none)
  (z_set : PySem.W.nsIn K mainGlobals "set" = some none)
  (z_sorted : PySem.W.nsIn K mainGlobals "sorted" = some none)
  (z_str : PySem.W.nsIn K mainGlobals "str" = some none)
  (z_tuple : PySem.W.nsIn K mainGlobals "tuple" = some none)
  (z_zip : PySem.W.nsIn K mainGlobals "zip" = some none)
  (hM : ∀ ns : List Int, ns.length ≤ 63 → ∃ C, M_law [.dat (.scr ns)] [] = some (.dat (.bl true), C)) :
  ∃ fd : FuncData, (∀ (s : Shared) (v : Value), BindsTo s fd ⟨[v], []⟩ [("_law_script", v)]) ∧ ∀ base : Heap, K.In base → base.Ns mainGlobals mg → FnOk l.prog w K mg base CX0 14 fa fd P30 (spTop K) := by
  have e := hfa.symm.trans (PySem.W.mg_of X G0 a30)
  cases e
  have h_abs := PySem.W.mg_none_of X G0 z_abs
  have h_all := PySem.W.mg_none_of X G0 z_all
  have h_any := PySem.W.mg_none_of X G0 z_any
  have h_bool := PySem.W.mg_none_of X G0 z_bool
  have h_enumerate := PySem.W.mg_none_of X G0 z_enumerate
  have h_int := PySem.W.mg_none_of X G0 z_int
  have h_isinstance := PySem.W.mg_none_of X G0 z_isinstance
  have h_len := PySem.W.mg_none_of X G0 z_len
  have h_list := PySem.W.mg_none_of X G0 z_list
  have h_range := PySem.W.mg_none_of X G0 z_range
  have h_set := PySem.W.mg_none_of X G0 z_set
  have h_sorted := PySem.W.mg_none_of X G0 z_sorted
  have h_str := PySem.W.mg_none_of X G0 z_str
  have h_tuple := PySem.W.mg_none_of X G0 z_tuple
  have h_zip := PySem.W.mg_none_of X G0 z_zip
  have F2 := fun_mk (st := s2) l2 c2 k2
  have g2 := PySem.W.mg_of X G0 a2
  have b2 := F2.binds (ps := P2) fun _ _ _ _ _ _ us hl => match us, hl with | [_], _ => rfl
  have F3 := fun_mk (st := s3) l3 c3 k3
  have g3 := PySem.W.mg_of X G0 a3
  have b3 := F3.binds (ps := P3) fun _ _ _ _ _ _ us hl => match us, hl with | [_, _, _], _ => rfl
  have F4 := fun_mk (st := s4) l4 c4 k4
  have g4 := PySem.W.mg_of X G0 a4
  have b4 := F4.binds (ps := P4) fun _ _ _ _ _ _ us hl => match us, hl with | [_], _ => rfl
  have F6 := fun_mk (st := s6) l6 c6 k6
  have g6 := PySem.W.mg_of X G0 a6
  have b6 := F6.binds (ps := P6) fun _ _ _ _ _ _ us hl => match us, hl with | [_], _ => rfl
  have F8x3 := fun_mk (st := s8x3) l8x3 c8x3 k8x3
  have b8x3 := F8x3.binds (ps := P8x3) fun _ _ _ _ _ _ us hl => match us, hl with | [_, _], _ => rfl
  have F8x1 := fun_mk (st := s8x1) l8x1 c8x1 k8x1
  have b8x1 := F8x1.binds (ps := P8x1) fun _ _ _ _ _ _ us hl => match us, hl with | [_, _], _ => rfl
  have F8x0 := fun_mk (st := s8x0) l8x0 c8x0 k8x0
  have b8x0 := F8x0.binds (ps := P8x0) fun _ _ _ _ _ _ us hl => match us, hl with | [_, _], _ => rfl
  have F10 := fun_mk (st := s10) l10 c10 k10
  have g10 := PySem.W.mg_of X G0 a10
  have b10 := F10.binds (ps := P10) fun _ _ _ _ _ _ us hl => match us, hl with | [_, _], _ => rfl
  have F8x4 := fun_mk (st := s8x4) l8x4 c8x4 k8x4
  have b8x4 := F8x4.binds (ps := P8x4) fun _ _ _ _ _ _ us hl => match us, hl with | [_, _], _ => rfl
  have F11 := fun_mk (st := s11) l11 c11 k11
  have g11 := PySem.W.mg_of X G0 a11
  have b11 := F11.binds (ps := P11) fun _ _ _ _ _ _ us hl => match us, hl with | [_, _], _ => rfl
  have F8x5 := fun_mk (st := s8x5) l8x5 c8x5 k8x5
  have b8x5 := F8x5.binds (ps := P8x5) fun _ _ _ _ _ _ us hl => match us, hl with | [_, _], _ => rfl
  have F12 := fun_mk (st := s12) l12 c12 k12
  have g12 := PySem.W.mg_of X G0 a12
  have b12 := F12.binds (ps := P12) fun _ _ _ _ _ _ us hl => match us, hl with | [_, _], _ => rfl
  have F14 := fun_mk (st := s14) l14 c14 k14
  have g14 := PySem.W.mg_of X G0 a14
  have b14 := F14.binds (ps := P14) fun _ _ _ _ _ _ us hl => match us, hl with | [_, _], _ => rfl
  have F13 := fun_mk (st := s13) l13 c13 k13
  have g13 := PySem.W.mg_of X G0 a13
  have b13 := F13.binds (ps := P13) fun _ _ _ _ _ _ us hl => match us, hl with | [_], _ => rfl
  have F16 := fun_mk (st := s16) l16 c16 k16
  have g16 := PySem.W.mg_of X G0 a16
  have b16 := F16.binds (ps := P16) fun _ _ _ _ _ _ us hl => match us, hl with | [_, _], _ => rfl
  have F17 := fun_mk (st := s17) l17 c17 k17
  have g17 := PySem.W.mg_of X G0 a17
  have b17 := F17.binds (ps := P17) fun _ _ _ _ _ _ us hl => match us, hl with | [_, _], _ => rfl
  have F18 := fun_mk (st := s18) l18 c18 k18
  have g18 := PySem.W.mg_of X G0 a18
  have b18 := F18.binds (ps := P18) fun _ _ _ _ _ _ us hl => match us, hl with | [_, _], _ => rfl
  have F19 := fun_mk (st := s19) l19 c19 k19
  have g19 := PySem.W.mg_of X G0 a19
  have b19 := F19.binds (ps := P19) fun _ _ _ _ _ _ us hl => match us, hl with | [_, _], _ => rfl
  have F20 := fun_mk (st := s20) l20 c20 k20
  have g20 := PySem.W.mg_of X G0 a20
  have b20 := F20.binds (ps := P20) fun _ _ _ _ _ _ us hl => match us, hl with | [_, _], _ => rfl
  have F21 := fun_mk (st := s21) l21 c21 k21
  have g21 := PySem.W.mg_of X G0 a21
  have b21 := F21.binds (ps := P21) fun _ _ _ _ _ _ us hl => match us, hl with | [_, _, _], _ => rfl
  have F22 := fun_mk (st := s22) l22 c22 k22
  have g22 := PySem.W.mg_of X G0 a22
  have b22 := F22.binds (ps := P22) fun _ _ _ _ _ _ us hl => match us, hl with | [_, _], _ => rfl
  have F23 := fun_mk (st := s23) l23 c23 k23
  have g23 := PySem.W.mg_of X G0 a23
  have b23 := F23.binds (ps := P23) fun _ _ _ _ _ _ us hl => match us, hl with | [_, _, _, _], _ => rfl
  have F24 := fun_mk (st := s24) l24 c24 k24
  have g24 := PySem.W.mg_of X G0 a24
  have b24 := F24.binds (ps := P24) fun _ _ _ _ _ _ us hl => match us, hl with | [_], _ => rfl
  have F25 := fun_mk (st := s25) l25 c25 k25
  have g25 := PySem.W.mg_of X G0 a25
  have b25 := F25.binds (ps := P25) fun _ _ _ _ _ _ us hl => match us, hl with | [_, _], _ => rfl
  have F26 := fun_mk (st := s26) l26 c26 k26
  have g26 := PySem.W.mg_of X G0 a26
  have b26 := F26.binds (ps := P26) fun _ _ _ _ _ _ us hl => match us, hl with | [_, _], _ => rfl
  have F27 := fun_mk (st := s27) l27 c27 k27
  have g27 := PySem.W.mg_of X G0 a27
  have b27 := F27.binds (ps := P27) fun _ _ _ _ _ _ us hl => match us, hl with | [_, _], _ => rfl
  have F28 := fun_mk (st := s28) l28 c28 k28
  have g28 := PySem.W.mg_of X G0 a28
  have b28 := F28.binds (ps := P28) fun _ _ _ _ _ _ us hl => match us, hl with | [_, _], _ => rfl
  have F29 := fun_mk (st := s29) l29 c29 k29
  have g29 := PySem.W.mg_of X G0 a29
  have b29 := F29.binds (ps := P29) fun _ _ _ _ _ _ us hl => match us, hl with | [_], _ => rfl
  have F30 := fun_mk (st := s30) l30 c30 k30
  have g30 := PySem.W.mg_of X G0 a30
  have b30 := F30.binds (ps := P30) fun _ _ _ _ _ _ us hl => match us, hl with | [_], _ => rfl
  have cl_Table : Cls K (Gm.cls (gc K CT_Table) "Table") := ⟨pg_Table, hd_Table, po_Table, sa_Table⟩
  have na_Table_above : NoAttr K (Gm.cls (gc K CT_Table) "Table") "above" := n_Table_above
  have na_Table_kinds : NoAttr K (Gm.cls (gc K CT_Table) "Table") "kinds" := n_Table_kinds
  have na_Table_methods : NoAttr K (Gm.cls (gc K CT_Table) "Table") "methods" := n_Table_methods
  have na_Table_nearer : NoAttr K (Gm.cls (gc K CT_Table) "Table") "nearer" := n_Table_nearer
  refine ⟨PySem.W.fnOf "law" "law" (defArgs s30) (defBody s30) (defScope s30) .none kv30 dc30 pm30 an30 cd30 ct30, fun s v => .of_eq rfl, fun base _ _ => ?_⟩
  have o2 := ok2 (P := l.prog) (w := w) (G := (gc K CT_Table)) (mg := mg) (base := base) F2
  have C2 : Cl l.prog w K mg base 1 "uppers" P2 (spE (gc K CT_Table) 1 M_uppers) := ⟨f2, _, o2, g2, k2, b2⟩
  have o3 := ok3 (P := l.prog) (w := w) (G := (gc K CT_Table)) (mg := mg) (base := base) F3 h_all h_zip
  have C3 : Cl l.prog w K mg base 1 "is_shape_below" P3 (spE (gc K CT_Table) 3 M_is_shape_below) := ⟨f3, _, o3, g3, k3, b3⟩
  have o4 := ok4 (P := l.prog) (w := w) (G := (gc K CT_Table)) (mg := mg) (base := base) F4
  have C4 : Cl l.prog w K mg base 1 "every_choice" P4 (spN (gc K CT_Table) 1 M_every_choice) := ⟨f4, _, o4, g4, k4, b4⟩
  have o6 := ok6 (P := l.prog) (w := w) (G := (gc K CT_Table)) (mg := mg) (base := base) F6 C4 h_sorted
  have C6 : Cl l.prog w K mg base 2 "shapes" P6 (spN (gc K CT_Table) 1 M_shapes) := ⟨f6, _, o6, g6, k6, b6⟩
  have o8x3 := ok8x3 (P := l.prog) (w := w) (G := (gc K CT_Table)) (mg := mg) (base := base) F8x3 C3 cl_Table na_Table_above na_Table_methods
  have C8x3 : ClM l.prog w K mg base 2 (Gm.cls (gc K CT_Table) "Table") "fitting" P8x3 (spE (gc K CT_Table) 2 M_Table_fitting) := ⟨f8x3, _, o8x3, ⟨a8x3, i8x3, k8x3⟩, b8x3⟩
  have o8x1 := ok8x1 (P := l.prog) (w := w) (G := (gc K CT_Table)) (mg := mg) (base := base) F8x1 C3 cl_Table na_Table_above na_Table_methods
  have C8x1 : ClM l.prog w K mg base 2 (Gm.cls (gc K CT_Table) "Table") "_nearer_than" P8x1 (spE (gc K CT_Table) 2 M_Table__nearer_than) := ⟨f8x1, _, o8x1, ⟨a8x1, i8x1, k8x1⟩, b8x1⟩
  have o8x0 := ok8x0 (P := l.prog) (w := w) (G := (gc K CT_Table)) (mg := mg) (base := base) F8x0 C8x1 C2 h_tuple cl_Table na_Table_above na_Table_kinds na_Table_methods na_Table_nearer
  have C8x0 : ClI l.prog w K mg base 3 "Table" (Gm.cls (gc K CT_Table) "Table") P8x0 (spE (gc K CT_Table) 2 M_Table___init__) := ⟨f8x0, _, o8x0, ⟨mk_Table, a8x0, i8x0, kc_Table⟩, PySem.W.mg_of X G0 aC_Table, b8x0⟩
  have o10 := ok10 (P := l.prog) (w := w) (G := (gc K CT_Table)) (mg := mg) (base := base) F10 C8x3 C8x0 cl_Table
  have C10 : Cl l.prog w K mg base 5 "fitting" P10 (spE (gc K CT_Table) 2 M_fitting) := ⟨f10, _, o10, g10, k10, b10⟩
  have o8x4 := ok8x4 (P := l.prog) (w := w) (G := (gc K CT_Table)) (mg := mg) (base := base) F8x4 C8x3 h_any cl_Table na_Table_nearer
  have C8x4 : ClM l.prog w K mg base 3 (Gm.cls (gc K CT_Table) "Table") "nearest" P8x4 (spE (gc K CT_Table) 2 M_Table_nearest) := ⟨f8x4, _, o8x4, ⟨a8x4, i8x4, k8x4⟩, b8x4⟩
  have o11 := ok11 (P := l.prog) (w := w) (G := (gc K CT_Table)) (mg := mg) (base := base) F11 C8x4 C8x0 cl_Table
  have C11 : Cl l.prog w K mg base 5 "nearest" P11 (spE (gc K CT_Table) 2 M_nearest) := ⟨f11, _, o11, g11, k11, b11⟩
  have o8x5 := ok8x5 (P := l.prog) (w := w) (G := (gc K CT_Table)) (mg := mg) (base := base) F8x5 C8x4 h_len cl_Table
  have C8x5 : ClM l.prog w K mg base 4 (Gm.cls (gc K CT_Table) "Table") "chosen" P8x5 (spE (gc K CT_Table) 2 M_Table_chosen) := ⟨f8x5, _, o8x5, ⟨a8x5, i8x5, k8x5⟩, b8x5⟩
  have o12 := ok12 (P := l.prog) (w := w) (G := (gc K CT_Table)) (mg := mg) (base := base) F12 C8x5 C8x0 cl_Table
  have C12 : Cl l.prog w K mg base 5 "chosen" P12 (spE (gc K CT_Table) 2 M_chosen) := ⟨f12, _, o12, g12, k12, b12⟩
  have o14 := ok14 (P := l.prog) (w := w) (G := (gc K CT_Table)) (mg := mg) (base := base) F14 C8x4 C6 h_len cl_Table
  have C14 : Cl l.prog w K mg base 4 "_torn_calls" P14 (spE (gc K CT_Table) 2 M__torn_calls) := ⟨f14, _, o14, g14, k14, b14⟩
  have o13 := ok13 (P := l.prog) (w := w) (G := (gc K CT_Table)) (mg := mg) (base := base) F13 C14 C8x0 cl_Table
  have C13 : Cl l.prog w K mg base 5 "torn" P13 (spE (gc K CT_Table) 1 M_torn) := ⟨f13, _, o13, g13, k13, b13⟩
  have o16 := ok16 (P := l.prog) (w := w) (G := (gc K CT_Table)) (mg := mg) (base := base) F16 h_abs h_int h_len
  have C16 : Cl l.prog w K mg base 1 "_law_box" P16 (spN (gc K CT_Table) 2 M_Lbox) := ⟨f16, _, o16, g16, k16, b16⟩
  have o17 := ok17 (P := l.prog) (w := w) (G := (gc K CT_Table)) (mg := mg) (base := base) F17 h_int
  have C17 : Cl l.prog w K mg base 1 "_law_take" P17 (spE (gc K CT_Table) 2 M_Ltake) := ⟨f17, _, o17, g17, k17, b17⟩
  have o18 := ok18 (P := l.prog) (w := w) (G := (gc K CT_Table)) (mg := mg) (base := base) F18 h_enumerate h_int h_list
  have C18 : Cl l.prog w K mg base 1 "_law_cells" P18 (spE (gc K CT_Table) 2 M_Lcells) := ⟨f18, _, o18, g18, k18, b18⟩
  have o19 := ok19 (P := l.prog) (w := w) (G := (gc K CT_Table)) (mg := mg) (base := base) F19 C17 h_len
  have C19 : Cl l.prog w K mg base 2 "_law_of" P19 (spE (gc K CT_Table) 2 M_Lof) := ⟨f19, _, o19, g19, k19, b19⟩
  have o20 := ok20 (P := l.prog) (w := w) (G := (gc K CT_Table)) (base := base) F20 g20 b20 h_all h_bool h_int h_isinstance h_len h_list h_str h_tuple h_zip 10
  have C20 : Cl l.prog w K mg base 11 "_law_same" P20 (spE (gc K CT_Table) 2 (M_Lsame 10)) := ⟨f20, _, o20, g20, k20, b20⟩
  have o21 := ok21 (P := l.prog) (w := w) (G := (gc K CT_Table)) (mg := mg) (base := base) F21 C19 C17 h_len h_range h_set h_sorted h_tuple
  have C21 : Cl l.prog w K mg base 3 "_law_kinds" P21 (spE (gc K CT_Table) 3 M_Lkinds) := ⟨f21, _, o21, g21, k21, b21⟩
  have o22 := ok22 (P := l.prog) (w := w) (G := (gc K CT_Table)) (mg := mg) (base := base) F22 h_range h_sorted
  have C22 : Cl l.prog w K mg base 1 "_law_shapes" P22 (spN (gc K CT_Table) 2 M_Lshapes) := ⟨f22, _, o22, g22, k22, b22⟩
  have o23 := ok23 (P := l.prog) (w := w) (G := (gc K CT_Table)) (mg := mg) (base := base) F23 C22 C17 h_len h_range h_sorted h_tuple
  have C23 : Cl l.prog w K mg base 2 "_law_methods" P23 (spE (gc K CT_Table) 4 M_Lmethods) := ⟨f23, _, o23, g23, k23, b23⟩
  have o24 := ok24 (P := l.prog) (w := w) (G := (gc K CT_Table)) (mg := mg) (base := base) F24 C22
  have C24 : Cl l.prog w K mg base 2 "_law_calls" P24 (spE (gc K CT_Table) 1 M_Lcalls) := ⟨f24, _, o24, g24, k24, b24⟩
  have o25 := ok25 (P := l.prog) (w := w) (G := (gc K CT_Table)) (mg := mg) (base := base) F25 h_sorted
  have C25 : Cl l.prog w K mg base 1 "_law_joined" P25 (spE (gc K CT_Table) 2 M_Ljoined) := ⟨f25, _, o25, g25, k25, b25⟩
  have o26 := ok26 (P := l.prog) (w := w) (G := (gc K CT_Table)) (mg := mg) (base := base) F26 h_sorted h_tuple
  have C26 : Cl l.prog w K mg base 1 "_law_great" P26 (spE (gc K CT_Table) 2 M_Lgreat) := ⟨f26, _, o26, g26, k26, b26⟩
  have o27 := ok27 (P := l.prog) (w := w) (G := (gc K CT_Table)) (mg := mg) (base := base) F27
  have C27 : Cl l.prog w K mg base 1 "_law_word" P27 (spE (gc K CT_Table) 2 M_Lword) := ⟨f27, _, o27, g27, k27, b27⟩
  have o28 := ok28 (P := l.prog) (w := w) (G := (gc K CT_Table)) (mg := mg) (base := base) F28 C24 C26 C25 C20 C27 C12 C10 C11 C13 h_int
  have C28 : Cl l.prog w K mg base 12 "_law_joined_right" P28 (spE (gc K CT_Table) 2 M_Ljoined_right) := ⟨f28, _, o28, g28, k28, b28⟩
  have o29 := ok29 (P := l.prog) (w := w) (G := (gc K CT_Table)) (mg := mg) (base := base) F29 C28 C21 C23 C17
  have C29 : Cl l.prog w K mg base 13 "_law_right" P29 (spE (gc K CT_Table) 1 M_Lright) := ⟨f29, _, o29, g29, k29, b29⟩
  have o30 := ok30 (P := l.prog) (w := w) (G := (gc K CT_Table)) (mg := mg) (base := base) F30 C16 C18 C29 h_all h_len h_range
  exact o30.imp (top_imp (G := (gc K CT_Table)) hM)
end DX

namespace DX
open PySem PySem.Spec L2
/-! ### the source of draws -/
abbrev boxD (a b c : Int) : D := .lst [.int a, .int b, .int c]
theorem at0 {α : Type} (x : α) (l : List α) : atI (x :: l) 0 = some x := atI_nat (j := 0) rfl
theorem at1 {α : Type} (x y : α) (l : List α) : atI (x :: y :: l) 1 = some y := atI_nat (j := 1) rfl
theorem at2 {α : Type} (x y z : α) (l : List α) : atI (x :: y :: z :: l) 2 = some z := atI_nat (j := 2) rfl
theorem ix0 : ixN 3 0 = some 0 := rfl
theorem ix2 : ixN 3 2 = some 2 := rfl
theorem take_ok {a b c n : Int} {C : Store} (hn : 0 < n) (hn2 : n < 1000000) (ha : 0 ≤ a) (hc : 0 ≤ c) (hc2 : c < 1000000000) :
    ∃ r a' c', M_Ltake [.cel 0, .dat (.int n)] (boxD a b c :: C) = some (.dat (.int r), boxD a' b c' :: C) ∧ 0 ≤ r ∧ r < n ∧ 0 ≤ a' ∧ 0 ≤ c' ∧ c' ≤ c + 1 := by
  have hne : n ≠ 0 := by omega
  by_cases h : 0 < a
  · refine ⟨a.fmod n, a.fdiv n, c, ?_, Int.fmod_nonneg_of_pos _ hn, Int.fmod_lt_of_pos _ hn, Int.fdiv_nonneg ha (by omega), hc, by omega⟩
    have hd : CDivN a n := ⟨hne, by omega⟩
    simp [M_Ltake, runE, m_Ltake, startE, gd, dGt, dI, dIx, dInt, dMod, dDiv, at0, unlk, h, hne, hd, sees, putAt, ix0, fin, List.replicate_succ, List.getElem?_cons_zero]
  · have g1 : ∀ i, CMul i (39373 + (c + 1)) := fun i => .inr ⟨by omega, by omega⟩
    have g2 : ∀ i, CMul 48271 i := fun i => .inl ⟨by decide, by decide⟩
    have g3 : ∀ i x, CMul i (Int.fmod x 40009 + 7) := fun i x => by
      have p1 := Int.fmod_nonneg_of_pos x (b := 40009) (by decide)
      have p2 := Int.fmod_lt_of_pos x (b := 40009) (by decide)
      exact .inr ⟨by omega, by omega⟩
    have g4 : ∀ i, CMul i 48271 := fun i => .inr ⟨by decide, by decide⟩
    have g5 : ∀ i, CDivN i 1000003 := fun i => ⟨by decide, by decide⟩
    have g6 : ∀ i, CDivN i 64 := fun i => ⟨by decide, by decide⟩
    have key : ∃ z : Int, M_Ltake [.cel 0, .dat (.int n)] (boxD a b c :: C) = some (.dat (.int (z.fmod n)), boxD a b (c + 1) :: C) := by
      refine Exists.intro ?z ?h
      case h =>
        simp [M_Ltake, runE, m_Ltake, startE, gd, dGt, dI, dIx, dInt, dMod, dDiv, dAdd, dMul, at0, at1, at2, unlk, h, hne, sees, putAt, ix0, ix2, fin, List.replicate_succ, List.getElem?_cons_zero, g1, g2, g3, g4, g5, g6]
        exact rfl
    obtain ⟨z, hz⟩ := key
    exact ⟨z.fmod n, a, c + 1, hz, Int.fmod_nonneg_of_pos _ hn, Int.fmod_lt_of_pos _ hn, ha, by omega, by omega⟩
/-- a box with at most k draws behind it -/
def Box (k : Nat) (d : D) : Prop := ∃ a b c, d = boxD a b c ∧ 0 ≤ a ∧ 0 ≤ c ∧ c ≤ k
theorem Box.mono {k j : Nat} {d : D} (h : Box k d) (l : k ≤ j) : Box j d := by
  obtain ⟨a, b, c, h1, h2, h3, h4⟩ := h; exact ⟨a, b, c, h1, h2, h3, by omega⟩
theorem Box.take {k n : Nat} {B : D} {C : Store} (h : Box k B) (hk : k < 100000) (hn : 0 < n) (hn2 : n < 1000000) :
    ∃ (r : Nat) (B' : D), M_Ltake [.cel 0, .dat (.int n)] (B :: C) = some (.dat (.int (r : Int)), B' :: C) ∧ r < n ∧ Box (k + 1) B' := by
  obtain ⟨a, b, c, rfl, h2, h3, h4⟩ := h
  obtain ⟨r, a', c', e, r1, r2, r3, r4, r5⟩ := take_ok (b := b) (C := C) (n := (n : Int)) (by omega) (by omega) h2 h3 (by omega)
  refine ⟨r.toNat, boxD a' b c', ?_, by omega, ⟨a', b, c', rfl, r3, r4, by omega⟩⟩
  rw [e, Int.toNat_of_nonneg r1]
theorem Box.of {k : Nat} {B : D} {C : Store} {xs : List D} (h : Box k B) (hk : k < 100000) (hn : xs ≠ []) (hn2 : xs.length < 1000000) :
    ∃ (x : D) (B' : D), M_Lof [.cel 0, .dat (.lst xs)] (B :: C) = some (.dat x, B' :: C) ∧ x ∈ xs ∧ Box (k + 1) B' := by
  obtain ⟨r, B', e, h1, h2⟩ := h.take (C := C) (n := xs.length) hk (by have := List.length_pos_iff.mpr hn; omega) hn2
  refine ⟨xs[r], B', ?_, List.getElem_mem h1, h2⟩
  have ea : atI xs (r : Int) = some xs[r] := atI_nat (List.getElem?_eq_getElem h1)
  simp [M_Lof, runE, m_Lof, startE, gd, dLen, lenD, dIx, sees, fin, e, ea, List.replicate_succ]
/-! ### kinds -/
structure Row where
  nm : Str
  sup : List Str
  bare : Bool
def encRow (r : Row) : D := .tup [.str r.nm, .tup (r.sup.map D.str), .bl r.bare]
def names (rs : List Row) : List Str := rs.map (·.nm)
/-- supers stand ahead -/
def Good : List Row → Prop
  | [] => True
  | rs => ∀ i r, rs[i]? = some r → (∀ u ∈ r.sup, u ∈ names (rs.take i)) ∧ r.sup.Nodup
def pool : List Str := ["a", "b", "c", "d", "e", "f", "ab", "z"]
theorem pool_nd : pool.Nodup := by decide +kernel
structure KIn (i : Nat) (rs : List Row) (left : List Str) : Prop where
  len : rs.length = i
  good : ∀ j r, rs[j]? = some r → (∀ u ∈ r.sup, u ∈ names (rs.take j)) ∧ r.sup.Nodup
  all : (names rs ++ left).Perm pool
end DX

namespace DX
open PySem PySem.Spec L2
theorem names_d (rs : List Row) : (rs.map encRow).map (fun d => match d with | .tup (x :: _) => x | _ => .non) = (names rs).map D.str := by
  unfold names
  rw [List.map_map, List.map_map]
  rfl
theorem sub_strs : ∀ {zs : List D} {ns : List Str}, (∀ z ∈ zs, ∃ u ∈ ns, z = .str u) → ∃ us, txts zs = some us ∧ us.length = zs.length ∧ ∀ u ∈ us, u ∈ ns
  | [], _, _ => ⟨[], rfl, rfl, fun _ h => by cases h⟩
  | z :: zs, ns, h => by
    obtain ⟨u, h1, rfl⟩ := h z List.mem_cons_self
    obtain ⟨us, h2, h3, h4⟩ := sub_strs (zs := zs) fun x hx => h x (List.mem_cons_of_mem _ hx)
    refine ⟨u :: us, by show (txts zs).map (u :: ·) = _; rw [h2]; rfl, by simp [h3], fun x hx => ?_⟩
    rcases List.mem_cons.mp hx with e | e
    · rw [e]; exact h1
    · exact h4 x e
theorem strok_pool : ∀ u ∈ pool, PyData.strOk u = true := by decide +kernel
theorem ok_strs {us : List Str} (h : ∀ u ∈ us, PyData.strOk u = true) {n : Nat} : okD (n + 1) (.lst (us.map D.str)) = true := by
  show okDs n (us.map D.str) = true
  rw [okDs_all]
  intro d hd
  obtain ⟨u, hu, rfl⟩ := List.mem_map.mp hd
  cases n <;> exact h u hu
theorem perm_erase {α : Type} : ∀ {l : List α} {i : Nat} (h : i < l.length), (l[i] :: l.eraseIdx i).Perm l
  | x :: l, 0, _ => List.Perm.refl _
  | x :: l, i + 1, h => by
    have ih := perm_erase (l := l) (i := i) (by simpa using h)
    simp only [List.getElem_cons_succ, List.eraseIdx_cons_succ]
    exact (List.Perm.swap _ _ _).trans (List.Perm.cons x ih)
def kEnv (many bare : Int) (o3 o6 o7 o8 : Option Sv) : Env := [some (.cel 0), some (.dat (.int many)), some (.dat (.int bare)), o3, some (.cel 1), some (.cel 2), o6, o7, o8, none, none]
/-- the draws of the supers -/
theorem draws_ok {k t : Nat} {B : D} {rs : List Row} {L : D} {bare many : Int} {o3 o6 o7 : Option Sv} (hB : Box k B) (hk : k + t < 100000) (hp : ∀ u ∈ names rs, u ∈ pool) (ht : t < 64) (hl : rs.length < 1000) :
    ∃ (us : List Str) (B' : D), compL [] (bName 10) (tB' (eBin dNe (eVar 8) (eFr (nLst aNil)))) (eCall 2 M_Lof (aCons (eVar 0) (aCons (eVar 8) aNil))) (wipeE (kEnv many bare o3 o6 o7 (some (.dat (.lst ((names rs).map D.str))))) [10]) (rngD 0 t) [B, L, .lst (rs.map encRow)] =
      some (us.map D.str, [B', L, .lst (rs.map encRow)]) ∧ Box (k + t) B' ∧ us.length ≤ t ∧ ∀ u ∈ us, u ∈ names rs := by
  have hlen : (rngD 0 (t : Int)).length = t := by simp [rngD]
  have hn : (names rs).length = rs.length := by simp [names]
  have step : ∀ (i : Nat) (d : D) (zs : List D) (C : Store), (rngD 0 (t : Int))[i]? = some d → (fun (i : Nat) (zs : List D) (C : Store) => ∃ B' : D, C = [B', L, .lst (rs.map encRow)] ∧ Box (k + i) B' ∧ zs.length ≤ i ∧ ∀ z ∈ zs, ∃ u ∈ names rs, z = D.str u) i zs C → stays C [] = true ∧ ∃ ρ1 kk C1, bName 10 d (wipeE (kEnv many bare o3 o6 o7 (some (.dat (.lst ((names rs).map D.str))))) [10]) = some ρ1 ∧ tB' (eBin dNe (eVar 8) (eFr (nLst aNil))) ρ1 C = some (kk, C1) ∧
      ((kk = false ∧ (fun (i : Nat) (zs : List D) (C : Store) => ∃ B' : D, C = [B', L, .lst (rs.map encRow)] ∧ Box (k + i) B' ∧ zs.length ≤ i ∧ ∀ z ∈ zs, ∃ u ∈ names rs, z = D.str u) (i + 1) zs C1) ∨ (kk = true ∧ ∃ z C2, eCall 2 M_Lof (aCons (eVar 0) (aCons (eVar 8) aNil)) ρ1 C1 = some (.dat z, C2) ∧ (fun (i : Nat) (zs : List D) (C : Store) => ∃ B' : D, C = [B', L, .lst (rs.map encRow)] ∧ Box (k + i) B' ∧ zs.length ≤ i ∧ ∀ z ∈ zs, ∃ u ∈ names rs, z = D.str u) (i + 1) (zs ++ [z]) C2)) := by
    intro i d zs C hd ⟨B', e, hB', hz, hzs⟩
    subst e
    have hi : i < t := by
      have := (List.getElem?_eq_some_iff.mp hd).1
      omega
    refine ⟨rfl, _, !(decide (names rs = [])), [B', L, .lst (rs.map encRow)], rfl, ?_, ?_⟩
    · have s1 : shp (.lst ((names rs).map D.str)) = true := shp_of (n := 1) (ok_strs fun u hu => strok_pool u (hp u hu)) (by omega)
      have s2 : shp (.lst []) = true := shp_of (n := 1) rfl (by omega)
      have s3 : eqvD (.lst ((names rs).map D.str)) (.lst []) = decide (names rs = []) := by
        cases names rs with
        | nil => simp [eqvD, toPy, toPyL, PyData.eqv, PyData.eqvAll]
        | cons x r => simp [eqvD, toPy, toPyL, PyData.eqv, PyData.eqvAll]
      have s4 : dNe (.lst ((names rs).map D.str)) (.lst []) = some (.bl (!decide (names rs = []))) := by
        unfold dNe
        rw [gd_t ⟨s1, s2⟩, s3]
      simp [kEnv, wipeE, dats, gd, s4, nolk]
    · by_cases h0 : names rs = []
      · exact .inl ⟨by simp [h0], B', rfl, hB'.mono (by omega), by omega, hzs⟩
      · have hne : (names rs).map D.str ≠ [] := by simpa using h0
        obtain ⟨x, B2, e1, hx, hB2⟩ := hB'.of (C := [L, .lst (rs.map encRow)]) (xs := (names rs).map D.str) (by omega) hne (by rw [List.length_map, hn]; omega)
        obtain ⟨u, hu, rfl⟩ := List.mem_map.mp hx
        refine .inr ⟨by simp [h0], .str u, [B2, L, .lst (rs.map encRow)], ?_, B2, rfl, hB2, by simp; omega, fun z hz2 => ?_⟩
        · simp [kEnv, wipeE, gd, e1]
        · rcases List.mem_append.mp hz2 with q | q
          · exact hzs z q
          · rw [List.mem_singleton] at q
            exact ⟨u, hu, q⟩
  obtain ⟨zs, C', h1, h2⟩ := comp_inv (cels := []) (C := [B, L, .lst (rs.map encRow)]) (items := rngD 0 t) (I := (fun (i : Nat) (zs : List D) (C : Store) => ∃ B' : D, C = [B', L, .lst (rs.map encRow)] ∧ Box (k + i) B' ∧ zs.length ≤ i ∧ ∀ z ∈ zs, ∃ u ∈ names rs, z = D.str u)) ⟨B, rfl, hB, Nat.le_refl _, fun _ h => by cases h⟩ step (fun _ _ _ => rfl)
  obtain ⟨B', e, hB', hz, hzs⟩ := h2
  obtain ⟨us, q1, q2, q3⟩ := sub_strs hzs
  have e2 := txts_some q1
  subst e2
  subst e
  rw [hlen] at hB' hz
  exact ⟨us, B', h1, hB', by rw [q2]; exact hz, q3⟩
end DX

namespace DX
open PySem PySem.Spec L2
theorem once_id : ∀ {l : List Str}, l.Nodup → once l = l
  | [], _ => rfl
  | x :: r, h => by
    obtain ⟨h1, h2⟩ := List.nodup_cons.mp h
    unfold once
    rw [if_neg h1, once_id h2]
theorem map_erase {α β : Type} (f : α → β) : ∀ (l : List α) (r : Nat), (l.map f).eraseIdx r = (l.eraseIdx r).map f
  | [], _ => by simp
  | x :: l, 0 => by simp
  | x :: l, r + 1 => by simp [map_erase f l r]
theorem step1 {k i : Nat} {B : D} {rs : List Row} {left : List Str} {many bare : Int} {o3 o6 o7 o8 : Option Sv} (hB : Box k B) (hk : k < 100000) (hl : left ≠ []) (hl2 : left.length < 1000) (hr : rs.length ≤ sizeLine) :
    ∃ (r : Nat) (B' : D) (h : r < left.length), sMul [7, 8] (aCons (ePopAt (eVar 4) (eCall 2 M_Ltake (aCons (eVar 0) (aCons (eB dLen (aCons (eVar 4) aNil)) aNil)))) (aCons (eFr (nLc (iSq (eVar 5)) (bName 9) tYes' (eBin dIx (eVar 9) (eC (.int 0))) [9])) aNil)) (kEnv many bare o3 o6 o7 o8) [B, .lst (left.map D.str), .lst (rs.map encRow)] =
      some (.nx (kEnv many bare o3 o6 (some (.dat (.str left[r]))) (some (.dat (.lst ((names rs).map D.str))))), [B', .lst ((left.eraseIdx r).map D.str), .lst (rs.map encRow)]) ∧ Box (k + 1) B' := by
  obtain ⟨r, B', e, h1, h2⟩ := hB.take (C := [.lst (left.map D.str), .lst (rs.map encRow)]) (n := left.length) hk (by have := List.length_pos_iff.mpr hl; omega) (by omega)
  refine ⟨r, B', h1, ?_, h2⟩
  have ei : ixN left.length (r : Int) = some r := by
    unfold ixN
    rw [if_pos (by omega), if_pos (by omega)]
    simp
  have hc : ∀ X : D, compL [(2, .lst (rs.map encRow))] (bName 9) tYes' (eBin dIx (eVar 9) (eC (.int 0))) (wipeE (kEnv many bare o3 o6 o7 o8) [9]) (rs.map encRow) [B', X, .lst (rs.map encRow)] = some ((names rs).map D.str, [B', X, .lst (rs.map encRow)]) := fun X => by
    rw [← names_d]
    refine comp_map (by simp [stays, sameD_rfl]) fun d hd => ?_
    obtain ⟨w, hw, rfl⟩ := List.mem_map.mp hd
    refine ⟨_, rfl, ?_⟩
    simp [kEnv, wipeE, encRow, dIx, at0]
  simp [sMul, ePopAt, kEnv, lstAt, sees, unlk, dLen, lenD, gd, e, ei, h1, nLc, iSq, keepOf, itemsOf, hr, nolk, setAll] at hc ⊢
  rw [hc]
  simp [nolk, setAll, map_erase]
theorem step2 {k : Nat} {B : D} {rs : List Row} {L : D} {many bare : Int} {o3 o6 o7 : Option Sv} (hB : Box k B) (hk : k + 5 < 100000) (hp : ∀ u ∈ names rs, u ∈ pool) (hl : rs.length < 1000) :
    ∃ (us : List Str) (B' : D), sSet 6 (eFr (nSortSet (eFr (nLc (iRg1 (aCons (eCall 2 M_Ltake (aCons (eVar 0) (aCons (eC (.int 4)) aNil))) aNil)) (bName 10) (tB' (eBin dNe (eVar 8) (eFr (nLst aNil)))) (eCall 2 M_Lof (aCons (eVar 0) (aCons (eVar 8) aNil))) [10]))))
      (kEnv many bare o3 o6 o7 (some (.dat (.lst ((names rs).map D.str))))) [B, L, .lst (rs.map encRow)] =
      some (.nx (kEnv many bare o3 (some (.dat (.lst (us.map D.str)))) o7 (some (.dat (.lst ((names rs).map D.str))))), [B', L, .lst (rs.map encRow)]) ∧ Box (k + 5) B' ∧ us.length ≤ 3 ∧ us.Nodup ∧ ∀ u ∈ us, u ∈ names rs := by
  obtain ⟨t, B1, e, h1, h2⟩ := hB.take (C := [L, .lst (rs.map encRow)]) (n := 4) (by omega) (by omega) (by omega)
  obtain ⟨us, B2, e2, h3, h4, h5⟩ := draws_ok (L := L) (bare := bare) (many := many) (o3 := o3) (o6 := o6) (o7 := o7) (t := t) h2 (by omega) hp (by omega) hl
  have hs : smI (t : Int) := smI_nat (by omega)
  have hr : (rngD 0 (t : Int)).length ≤ sizeLine := by
    have : (rngD 0 (t : Int)).length = t := by simp [rngD]
    rw [this]
    exact small_line (by omega)
  have lo := len_once us
  refine ⟨sortStr (once us), B2, ?_, h3.mono (by omega), ?_, ?_, fun u hu => ?_⟩
  · have h64 : us.length < 64 := by omega
    have i1 : iRg1 (aCons (eCall 2 M_Ltake (aCons (eVar 0) (aCons (eC (.int 4)) aNil))) aNil) (kEnv many bare o3 o6 o7 (some (.dat (.lst ((names rs).map D.str))))) [B, L, .lst (rs.map encRow)] = some (⟨rngD 0 t, []⟩, [B1, L, .lst (rs.map encRow)]) := by
      have e' : M_Ltake [.cel 0, .dat (.int 4)] [B, L, .lst (rs.map encRow)] = some (.dat (.int (t : Int)), [B1, L, .lst (rs.map encRow)]) := e
      show bnd (bnd (gd ([Sv.cel 0, Sv.dat (.int 4)].length = 2) (M_Ltake [.cel 0, .dat (.int 4)] [B, L, .lst (rs.map encRow)])) _) _ = _
      rw [gd_t (show [Sv.cel 0, Sv.dat (.int 4)].length = 2 from rfl), e', bnd_s, e_nil, bnd_s, bnd_s]
      exact gd_t hs
    have n1 : nLc (iRg1 (aCons (eCall 2 M_Ltake (aCons (eVar 0) (aCons (eC (.int 4)) aNil))) aNil)) (bName 10) (tB' (eBin dNe (eVar 8) (eFr (nLst aNil)))) (eCall 2 M_Lof (aCons (eVar 0) (aCons (eVar 8) aNil))) [10] (kEnv many bare o3 o6 o7 (some (.dat (.lst ((names rs).map D.str))))) [B, L, .lst (rs.map encRow)] = some (.lst (us.map D.str), [B2, L, .lst (rs.map encRow)]) := by
      unfold nLc
      rw [i1, bnd_s, gd_t hr, e2, bnd_s]
    rw [s_set, e_fr]
    unfold nSortSet
    rw [e_fr, n1, bnd_s, gd_t (show nolk (D.lst _) = true from rfl), bnd_s, see_d, bn1_s]
    show bnd (bnd (bn1 (txts (us.map D.str)) _) _) _ = _
    rw [txts_map, bn1_s, gd_t h64, bnd_s, gd_t (show nolk (D.lst _) = true from rfl), bnd_s]
    rfl
  · rw [(sortStr_perm _).length_eq]; omega
  · exact (sortStr_perm _).nodup_iff.mpr (nodup_once us)
  · exact h5 u (mem_once.mp ((sortStr_perm _).mem_iff.mp hu))
theorem step3 {k : Nat} {B : D} {rs : List Row} {us : List Str} {nm : Str} {L : D} {many bare : Int} {o3 o8 : Option Sv} (hB : Box k B) (hk : k < 100000) (hl : rs.length < 1000) (hu : us.length ≤ 3) :
    ∃ (x : Bool) (B' : D), sDrop (eApp (eVar 5) (eTup (aCons (eVar 7) (aCons (eB dTuple (aCons (eVar 6) aNil)) (aCons (eBin dLt (eCall 2 M_Ltake (aCons (eVar 0) (aCons (eC (.int 12)) aNil))) (eVar 2)) aNil)))))
      (kEnv many bare o3 (some (.dat (.lst (us.map D.str)))) (some (.dat (.str nm))) o8) [B, L, .lst (rs.map encRow)] =
      some (.nx (kEnv many bare o3 (some (.dat (.lst (us.map D.str)))) (some (.dat (.str nm))) o8), [B', L, .lst ((rs ++ [(⟨nm, us, x⟩ : Row)]).map encRow)]) ∧ Box (k + 1) B' := by
  obtain ⟨t, B1, e, h1, h2⟩ := hB.take (C := [L, .lst (rs.map encRow)]) (n := 12) (by omega) (by omega) (by omega)
  refine ⟨decide ((t : Int) < bare), B1, ?_, h2⟩
  have hz : rs.length < sizeLine := Nat.lt_of_lt_of_le (by omega : rs.length < 1000) (small_line (Nat.le_refl _))
  simp [kEnv] at e ⊢
  simp [e, eApp, lstAt, gd, dats, sees, dTuple, dLt, dI, hz, encRow]
structure KOk (rs : List Row) : Prop where
  good : ∀ j r, rs[j]? = some r → (∀ u ∈ r.sup, u ∈ names (rs.take j)) ∧ r.sup.Nodup
  nd : (names rs).Nodup
  sub : ∀ u ∈ names rs, u ∈ pool
theorem kinds_ok {k many : Nat} {bare : Int} {B : D} (hB : Box k B) (hk : k + 7 * many < 90000) (hm : many ≤ 8) :
    ∃ (rs : List Row) (B' : D), M_Lkinds [.cel 0, .dat (.int many), .dat (.int bare)] [B] = some (.dat (.tup (rs.map encRow)), [B']) ∧ Box (k + 7 * many) B' ∧ rs.length = many ∧ KOk rs := by
  have hlen : (rngD 0 (many : Int)).length = many := by simp [rngD]
  let I : Nat → Env → Store → Prop := fun i ρ C => ∃ (o3 o6 o7 o8 : Option Sv) (B' : D) (rs : List Row) (left : List Str), ρ = kEnv many bare o3 o6 o7 o8 ∧ C = [B', .lst (left.map D.str), .lst (rs.map encRow)] ∧ Box (k + 7 * i) B' ∧ KIn i rs left
  have nd : ∀ {i rs left}, KIn i rs left → (names rs ++ left).Nodup := fun q => q.all.nodup_iff.mpr pool_nd
  have step : ∀ i d ρ C, (rngD 0 (many : Int))[i]? = some d → I i ρ C → stays C [] = true ∧ ∃ ρ1 ρ2 C1, bName 3 d ρ = some ρ1 ∧
      (sSeq (sMul [7, 8] (aCons (ePopAt (eVar 4) (eCall 2 M_Ltake (aCons (eVar 0) (aCons (eB dLen (aCons (eVar 4) aNil)) aNil)))) (aCons (eFr (nLc (iSq (eVar 5)) (bName 9) tYes' (eBin dIx (eVar 9) (eC (.int 0))) [9])) aNil)))
    (sSeq (sSet 6 (eFr (nSortSet (eFr (nLc (iRg1 (aCons (eCall 2 M_Ltake (aCons (eVar 0) (aCons (eC (.int 4)) aNil))) aNil)) (bName 10) (tB' (eBin dNe (eVar 8) (eFr (nLst aNil)))) (eCall 2 M_Lof (aCons (eVar 0) (aCons (eVar 8) aNil))) [10])))))
    (sDrop (eApp (eVar 5) (eTup (aCons (eVar 7) (aCons (eB dTuple (aCons (eVar 6) aNil)) (aCons (eBin dLt (eCall 2 M_Ltake (aCons (eVar 0) (aCons (eC (.int 12)) aNil))) (eVar 2)) aNil))))))) ) ρ1 C = some (.nx ρ2, C1) ∧ I (i + 1) ρ2 C1 := by
    intro i d ρ C hd ⟨o3, o6, o7, o8, B1, rs, left, hρ, hC, hB1, hK⟩
    subst hρ
    subst hC
    have hi : i < many := by
      have := (List.getElem?_eq_some_iff.mp hd).1
      omega
    have hl8 : rs.length + left.length = 8 := by
      have q := hK.all.length_eq
      rw [List.length_append] at q
      have : pool.length = 8 := by decide +kernel
      have h2 : (names rs).length = rs.length := by simp [names]
      omega
    have h0 := hK.len
    have hne : left ≠ [] := fun z => by rw [z] at hl8; simp at hl8; omega
    have sub : ∀ u ∈ names rs, u ∈ pool := fun u hu => hK.all.mem_iff.mp (List.mem_append_left _ hu)
    obtain ⟨r, B2, hr, e1, b2⟩ := step1 (i := i) (rs := rs) (many := many) (bare := bare) (o3 := some (.dat d)) (o6 := o6) (o7 := o7) (o8 := o8) hB1 (by omega) hne (by omega) (small_line (by omega))
    obtain ⟨us, B3, e2, b3, u1, u2, u3⟩ := step2 (L := .lst ((left.eraseIdx r).map D.str)) (many := many) (bare := bare) (o3 := some (.dat d)) (o6 := o6) (o7 := some (.dat (.str left[r]))) b2 (by omega) sub (by omega)
    obtain ⟨x, B4, e3, b4⟩ := step3 (rs := rs) (us := us) (nm := left[r]) (L := .lst ((left.eraseIdx r).map D.str)) (many := many) (bare := bare) (o3 := some (.dat d)) (o8 := some (.dat (.lst ((names rs).map D.str)))) b3 (by omega) (by omega) u1
    refine ⟨rfl, kEnv many bare (some (.dat d)) o6 o7 o8, kEnv many bare (some (.dat d)) (some (.dat (.lst (us.map D.str)))) (some (.dat (.str left[r]))) (some (.dat (.lst ((names rs).map D.str)))), _, rfl, ?_, some (.dat d), _, _, _, B4, rs ++ [⟨left[r], us, x⟩], left.eraseIdx r, rfl, rfl, b4.mono (by omega), ?_⟩
    · rw [s_seq, e1, bnd_s]
      show sSeq _ _ _ _ = _
      rw [s_seq, e2, bnd_s]
      exact e3
    · refine ⟨by simp [h0], fun j w hw => ?_, ?_⟩
      · by_cases hj : j < rs.length
        · rw [List.getElem?_append_left hj] at hw
          have q := hK.good j w hw
          refine ⟨fun u hu => ?_, q.2⟩
          rw [List.take_append_of_le_length (by omega)]
          exact q.1 u hu
        · have hj2 : j = rs.length := by
            have := (List.getElem?_eq_some_iff.mp hw).1
            simp at this
            omega
          subst hj2
          rw [List.getElem?_concat_length] at hw
          cases hw
          refine ⟨fun u hu => ?_, u2⟩
          rw [List.take_left']
          · exact u3 u hu
          · rfl
      · have q : (names (rs ++ [⟨left[r], us, x⟩]) ++ left.eraseIdx r) = names rs ++ (left[r] :: left.eraseIdx r) := by simp [names]
        rw [q]
        exact ((perm_erase hr).append_left _).trans hK.all
  have h0 : I 0 (kEnv many bare none none none none) [B, .lst (pool.map D.str), .lst []] := ⟨none, none, none, none, B, [], pool, rfl, rfl, hB, rfl, fun j r h => by simp at h, List.Perm.refl _⟩
  obtain ⟨ρ', C', e, o3, o6, o7, o8, B', rs, left, hρ, hC, hB', hK⟩ := for_inv (cels := []) (b := bName 3) (items := rngD 0 (many : Int)) (I := I) h0 step (fun _ _ _ => rfl)
  rw [hlen] at hB' hK
  refine ⟨rs, B', ?_, hB', hK.len, hK.good, (List.nodup_append.mp (nd hK)).1, fun u hu => hK.all.mem_iff.mp (List.mem_append_left _ hu)⟩
  have hs : smI (many : Int) := smI_nat (by omega)
  simp only [kEnv] at e hρ
  simp [pool] at e
  simp [M_Lkinds, runE, m_Lkinds, startE, gd, sMul, aNew, dats, setAll, List.replicate_succ, sFor, iRg1, hs] at e ⊢
  rw [e]
  subst hρ
  subst hC
  simp [sees, unlk, dTuple, fin]
end DX

namespace DX
open PySem PySem.Spec L2
theorem runE_eq {N np : Nat} {body : SS} {svs : List Sv} {C : Store} (h : svs.length = np) : runE N np body svs C = bnd (body (startE N svs) C) fun o C' => fin C.length o C' := gd_t h
theorem cut_lo (ns : List Int) (n : Nat) : cutD ns none (some (n : Int)) = ns.take n := by
  unfold cutD
  rw [HT.sIx_none, HT.sIx_nat, List.drop_zero, Nat.sub_zero]
  rw [List.take_eq_take_iff]
  omega
theorem cut_mid (ns : List Int) (m n : Nat) (h : ns.length ≤ n) : cutD ns (some (m : Int)) (some (n : Int)) = ns.drop m := by
  unfold cutD
  rw [HT.sIx_nat, HT.sIx_nat, Nat.min_eq_right h]
  by_cases q : m ≤ ns.length
  · rw [Nat.min_eq_left q]
    exact List.take_of_length_le (by rw [List.length_drop]; omega)
  · rw [Nat.min_eq_right (by omega), List.drop_of_length_le (Nat.le_refl _), List.drop_of_length_le (by omega)]
    simp
theorem enum_get {xs : List D} {i : Nat} {d : D} (h : (enumD xs)[i]? = some d) : ∃ x, xs[i]? = some x ∧ d = .tup [.int (i : Nat), x] := by
  unfold enumD at h
  rw [List.getElem?_zipWith] at h
  cases h1 : (List.range xs.length)[i]? with
  | none => rw [h1] at h; cases h
  | some j =>
    cases h2 : xs[i]? with
    | none => rw [h1, h2] at h; cases h
    | some x =>
      rw [h1, h2] at h
      cases h
      have e : j = i := by
        have := List.getElem?_eq_some_iff.mp h1
        obtain ⟨_, e⟩ := this
        simpa using e.symm
      subst e
      exact ⟨x, rfl, rfl⟩
def cEnv (ns : List Int) (o3 o4 o5 : Option Sv) : Env := [some (.dat (.scr ns)), some (.dat (.int 2)), some (.cel 0), o3, o4, o5]
theorem cells_ok {ns : List Int} (h : ns.length ≤ 63) : ∃ cs : List Int, M_Lcells [.dat (.scr ns), .dat (.int 2)] [] = some (.dat (.lst (cs.map D.int)), []) ∧ 1 ≤ cs.length ∧ cs.length ≤ 2 := by
  let items := enumD ((ns.drop 2).map D.int)
  obtain ⟨c0, n1, n2, n3, n4⟩ : ∃ c0 : List Int, nOrT (nB dList (aCons (eSl (eVar 0) oNone (oSome (eVar 1))) aNil)) (nLst (aCons (eC (.int 0)) aNil)) [some (.dat (.scr ns)), some (.dat (.int 2)), none, none, none, none] [] = some (.lst (c0.map D.int), []) ∧ 1 ≤ c0.length ∧ c0.length ≤ 2 ∧ (2 < ns.length → c0.length = 2) := by
    have e : cutD ns none (some (2 : Int)) = ns.take 2 := cut_lo ns 2
    cases ns with
    | nil =>
      have e' : cutD ([] : List Int) none (some (2 : Int)) = [] := by rw [e]; rfl
      refine ⟨[0], ?_, by simp, by simp, by simp⟩
      simp [nOrT, eSl, oNone, oSome, dSl, e', sees, dList, dats, gd]
    | cons x r =>
      refine ⟨(x :: r).take 2, ?_, by rw [List.length_take, List.length_cons]; omega, by rw [List.length_take]; omega, fun h => by rw [List.length_take]; omega⟩
      simp [nOrT, eSl, oNone, oSome, dSl, e, sees, dList]
  let I : Nat → Env → Store → Prop := fun i ρ C => ∃ (o3 o4 o5 : Option Sv) (cs : List Int), ρ = cEnv ns o3 o4 o5 ∧ C = [.lst (cs.map D.int)] ∧ cs.length = c0.length
  have step : ∀ i d ρ C, items[i]? = some d → I i ρ C → stays C [] = true ∧ ∃ ρ1 ρ2 C1, bSeq 2 (bCons (bName 3) (bCons (bName 4) bNil)) d ρ = some ρ1 ∧ (sSeq (sSet 5 (eBin dMod (eB dInt (aCons (eVar 3) aNil)) (eVar 1)))
    (sPut (eBin dAdd (eBin dIx (eVar 2) (eVar 5)) (eBin dMul (eVar 4) (eBin dAdd (eVar 3) (eC (.int 2))))) (eVar 2) (eVar 5))) ρ1 C = some (.nx ρ2, C1) ∧ I (i + 1) ρ2 C1 := by
    intro i d ρ C hd ⟨o3, o4, o5, cs, hρ, hC, hl⟩
    subst hρ
    subst hC
    obtain ⟨x, hx, rfl⟩ := enum_get hd
    rw [List.getElem?_map] at hx
    cases hz : (ns.drop 2)[i]? with
    | none => rw [hz] at hx; cases hx
    | some z =>
      rw [hz] at hx
      cases hx
      have hi : i < ns.length - 2 := by
        have := (List.getElem?_eq_some_iff.mp hz).1
        rwa [List.length_drop] at this
      have h3 : cs.length = 2 := by rw [hl]; exact n4 (by omega)
      have hm0 : (0 : Int) ≤ (i : Int).fmod 2 := Int.fmod_nonneg_of_pos _ (by decide)
      have hm1 : (i : Int).fmod 2 < 2 := Int.fmod_lt_of_pos _ (by decide)
      obtain ⟨j, hj⟩ : ∃ j : Nat, (i : Int).fmod 2 = (j : Int) := ⟨_, (Int.toNat_of_nonneg hm0).symm⟩
      have hj3 : j < cs.length := by omega
      have a1 : atI (cs.map D.int) (j : Int) = some (.int cs[j]) := atI_nat (by rw [List.getElem?_map, List.getElem?_eq_getElem hj3]; rfl)
      have a2 : ixN cs.length (j : Int) = some j := by
        unfold ixN
        rw [if_pos (by omega), if_pos (by omega)]
        simp
      have a3 : CMul z ((i : Int) + 2) := .inr ⟨by omega, by omega⟩
      refine ⟨rfl, cEnv ns (some (.dat (.int i))) (some (.dat (.int z))) o5, cEnv ns (some (.dat (.int i))) (some (.dat (.int z))) (some (.dat (.int j))), [.lst ((cs.set j (cs[j] + z * ((i : Int) + 2))).map D.int)], rfl, ?_, _, _, _, _, rfl, rfl, by simp [hl]⟩
      simp [cEnv, sees, dInt, dMod, dI, gd, hj, dIx, unlk, a1, dAdd, dMul, a3, putAt, a2, List.map_set]
  have he : cutD ns (some (2 : Int)) (some (63 : Int)) = ns.drop 2 := cut_mid ns 2 63 h
  obtain ⟨ρ', C', e, o3, o4, o5, cs, hρ, hC, hl⟩ := for_inv (cels := []) (b := bSeq 2 (bCons (bName 3) (bCons (bName 4) bNil))) (items := items) (I := I) (ρ := cEnv ns none none none) (C := [.lst (c0.map D.int)]) ⟨none, none, none, c0, rfl, rfl, rfl⟩ step (fun _ _ _ => rfl)
  subst hρ
  subst hC
  refine ⟨cs, ?_, by omega, by omega⟩
  have e2 : sFor (iEn (aCons (eSl (eVar 0) (oSome (eVar 1)) (oSome (eC (.int 63)))) aNil)) (bSeq 2 (bCons (bName 3) (bCons (bName 4) bNil))) (sSeq (sSet 5 (eBin dMod (eB dInt (aCons (eVar 3) aNil)) (eVar 1)))
    (sPut (eBin dAdd (eBin dIx (eVar 2) (eVar 5)) (eBin dMul (eVar 4) (eBin dAdd (eVar 3) (eC (.int 2))))) (eVar 2) (eVar 5))) (cEnv ns none none none) [.lst (c0.map D.int)] = some (.nx (cEnv ns o3 o4 o5), [.lst (cs.map D.int)]) := by
    rw [← e]
    simp [sFor, iEn, eSl, oSome, cEnv, dSl, he, keepOf, items]
  unfold M_Lcells
  rw [runE_eq (by rfl)]
  unfold m_Lcells
  have n1' : nOrT (nB dList (aCons (eSl (eVar 0) oNone (oSome (eVar 1))) aNil)) (nLst (aCons (eC (.int 0)) aNil)) (startE 6 [Sv.dat (.scr ns), Sv.dat (.int 2)]) [] = some (.lst (c0.map D.int), []) := n1
  have e3 : startE 6 [Sv.dat (.scr ns), Sv.dat (.int 2)] = [some (.dat (.scr ns)), some (.dat (.int 2)), none, none, none, none] := rfl
  rw [s_seq, s_new, n1', bnd_s, bnd_s, e3]
  dsimp only
  rw [s_seq]
  have e4 : ([some (Sv.dat (.scr ns)), some (Sv.dat (.int 2)), none, none, none, none] : Env).set 2 (some (.cel ([] : Store).length)) = cEnv ns none none none := rfl
  rw [e4, List.nil_append, e2, bnd_s]
  rfl
end DX

namespace DX
open PySem PySem.Spec L2
theorem box_ok {cs : List Int} {k : Nat} (hk : k < cs.length) (h3 : cs.length ≤ 3) : ∃ B : D, M_Lbox [.dat (.lst (cs.map D.int)), .dat (.int k)] [] = some (B, []) ∧ Box 0 B := by
  have a1 : atI (cs.map D.int) (k : Int) = some (.int cs[k]) := atI_nat (by rw [List.getElem?_map, List.getElem?_eq_getElem hk]; rfl)
  have a2 : ((k : Int) < (cs.length : Int)) = True := by simp; exact hk
  generalize cs[k] = z at a1
  let y : Int := if z < 0 then -z else z
  let b : Bool := decide ((1000000000000000000 : Int) ≤ y)
  have hy : 0 ≤ y := by
    show 0 ≤ if z < 0 then -z else z
    split <;> omega
  have g1 : ∀ i : Int, CMul i (if b = true then 1 else 0) := fun i => by
    cases b
    · exact .inr ⟨by decide, by decide⟩
    · exact .inr ⟨by decide, by decide⟩
  have g2 : ∀ i : Int, CMul 39373 i := fun i => .inl ⟨by decide, by decide⟩
  have g3 : CPow 10 18 := by decide
  have s1 : eIf (tB' (eBin dLt (eVar 1) (eB dLen (aCons (eVar 0) aNil)))) (eBin dIx (eVar 0) (eVar 1)) (eC (.int 0)) [some (.dat (.lst (cs.map D.int))), some (.dat (.int k)), none] [] = some (.dat (.int z), []) := by
    simp [sees, dLen, lenD, dLt, dI, gd, a2, dIx, a1, hk]
  refine ⟨boxD (y * (if b = true then 1 else 0)) ((Int.fmod z 2305843009213693951 + 39373 * k) + 103) 0, ?_, _, _, _, rfl, ?_, Int.le_refl _, Int.le_refl _⟩
  · unfold M_Lbox
    show gd ([Sv.dat (.lst (cs.map D.int)), Sv.dat (.int k)].length = 2) _ = _
    rw [gd_t (show [Sv.dat (.lst (cs.map D.int)), Sv.dat (.int (k : Int))].length = 2 from rfl)]
    unfold m_Lbox
    rw [s_seq, s_set]
    have e3 : startE 3 [Sv.dat (.lst (cs.map D.int)), Sv.dat (.int (k : Int))] = [some (.dat (.lst (cs.map D.int))), some (.dat (.int k)), none] := rfl
    rw [e3, s1, bnd_s, bnd_s]
    dsimp only
    have p1 : dPow (.int 10) (.int 18) = some (.int 1000000000000000000) := by
      have q : dPow (.int 10) (.int 18) = some (.int ((10 : Int) ^ (18 : Int).toNat)) := gd_t g3
      rw [q]
      rfl
    have p2 : dMul (.int y) (.int (if b = true then 1 else 0)) = some (.int (y * (if b = true then 1 else 0))) := by
      show gd _ _ = _
      rw [gd_t (g1 y)]
    have p3 : dMul (.int 39373) (.int k) = some (.int (39373 * k)) := by
      show gd _ _ = _
      rw [gd_t (g2 _)]
    have p4 : dMod (.int z) (.int 2305843009213693951) = some (.int (z.fmod 2305843009213693951)) := by
      exact gd_t (by decide : (2305843009213693951 : Int) ≠ 0)
    have p5 : dAbs [.int z] = some (.int y) := rfl
    have p6 : dGe (.int y) (.int 1000000000000000000) = some (.bl b) := rfl
    simp [sRetNew, sees, p5, p1, p6, p2, p3, p4, dInt, dAdd, dats, gd]
    rfl
  · cases b <;> simp <;> exact hy
theorem law_of {ns : List Int} (h : ns.length ≤ 63) (hR : ∀ B : D, Box 0 B → ∃ C', M_Lright [.cel 0] [B] = some (.dat (.bl true), C')) : ∃ C, M_law [.dat (.scr ns)] [] = some (.dat (.bl true), C) := by
  obtain ⟨cs, e, h1, h2⟩ := cells_ok h
  have h3 : cs.length ≤ 3 := by omega
  refine ⟨[], ?_⟩
  have hr : (rngD 0 (cs.length : Int)).length = cs.length := by simp [rngD]
  have c1 : compL [] (bName 2) tYes' (eCallG 1 M_Lright (aNew (nCall 2 M_Lbox (aCons (eVar 1) (aCons (eVar 2) aNil))) aNil)) (wipeE [some (.dat (.scr ns)), some (.dat (.lst (cs.map D.int))), none] [2]) (rngD 0 (cs.length : Int)) [] = some ((rngD 0 (cs.length : Int)).map fun _ => D.bl true, []) := by
    refine comp_map rfl fun d hd => ?_
    obtain ⟨i, hi, rfl⟩ := List.mem_map.mp hd
    have hi' : i < cs.length := by simpa using hi
    obtain ⟨B, b1, b2⟩ := box_ok hi' h3
    obtain ⟨C', b3⟩ := hR B b2
    refine ⟨_, rfl, ?_⟩
    have b1' : M_Lbox [.dat (.lst (cs.map D.int)), .dat (.int ((0 : Int) + (i : Nat)))] [] = some (B, []) := by rw [Int.zero_add]; exact b1
    have q : aNew (nCall 2 M_Lbox (aCons (eVar 1) (aCons (eVar 2) aNil))) aNil ((wipeE [some (.dat (.scr ns)), some (.dat (.lst (cs.map D.int))), none] [2]).set 2 (some (.dat (.int ((0 : Int) + (i : Nat)))))) [] = some ([.cel 0], [B]) := by
      have b2' := b1
      simp [aNew, nCall, wipeE, gd] at b2' ⊢
      rw [b2']
      rfl
    show bnd (aNew (nCall 2 M_Lbox (aCons (eVar 1) (aCons (eVar 2) aNil))) aNil _ _) _ = _
    rw [q, bnd_s]
    show gd ([Sv.cel 0].length = 1) (bnd (M_Lright [.cel 0] [B]) _) = _
    rw [gd_t (show [Sv.cel 0].length = 1 from rfl), b3, bnd_s]
    rfl
  have e0 : M_Lcells [.dat (.scr ns), .dat (.int 2)] [] = some (.dat (.lst (cs.map D.int)), []) := e
  have d0 : ∀ l : List D, dBools (l.map fun _ => D.bl true) = some (l.map fun _ => true) := fun l => by
    induction l with
    | nil => rfl
    | cons x r ih => show bn1 (dBools (r.map fun _ => D.bl true)) _ = _; rw [ih]; rfl
  have d1 : dAll [.lst ((rngD 0 (cs.length : Int)).map fun _ => D.bl true)] = some (.bl true) := by
    show bn1 (dBools _) _ = _
    rw [d0, bn1_s]
    simp
  have hs : smI (cs.length : Int) := smI_nat (by omega)
  have hr2 : (rngD 0 (cs.length : Int)).length ≤ sizeLine := by rw [hr]; exact small_line (by omega)
  have n1 : nLc (iRg1 (aCons (eB dLen (aCons (eVar 1) aNil)) aNil)) (bName 2) tYes' (eCallG 1 M_Lright (aNew (nCall 2 M_Lbox (aCons (eVar 1) (aCons (eVar 2) aNil))) aNil)) [2] [some (.dat (.scr ns)), some (.dat (.lst (cs.map D.int))), none] [] = some (.lst ((rngD 0 (cs.length : Int)).map fun _ => D.bl true), []) := by
    have i1 : iRg1 (aCons (eB dLen (aCons (eVar 1) aNil)) aNil) [some (.dat (.scr ns)), some (.dat (.lst (cs.map D.int))), none] [] = some (⟨rngD 0 (cs.length : Int), []⟩, []) := by
      simp [iRg1, sees, dLen, lenD]
      exact gd_t hs
    unfold nLc
    rw [i1, bnd_s, gd_t hr2, c1, bnd_s]
  unfold M_law
  rw [runE_eq (by rfl)]
  unfold m_law
  have e3 : startE 3 [Sv.dat (.scr ns)] = [some (.dat (.scr ns)), none, none] := rfl
  rw [s_seq, s_set, e3]
  have e4 : eCall 2 M_Lcells (aCons (eVar 0) (aCons (eC (.int 2)) aNil)) [some (.dat (.scr ns)), none, none] [] = some (.dat (.lst (cs.map D.int)), []) := by
    simp [gd, e0]
  rw [e4, bnd_s, bnd_s]
  dsimp only
  have e5 : ([some (Sv.dat (.scr ns)), none, none] : Env).set 1 (some (.dat (.lst (cs.map D.int)))) = [some (.dat (.scr ns)), some (.dat (.lst (cs.map D.int))), none] := rfl
  rw [e5, s_ret, e_b, e_cons, e_fr, n1, bnd_s, gd_t (show nolk (D.lst _) = true from rfl), bnd_s, e_nil, bnd_s, bnd_s]
  show bnd (bnd (bn1 (dAll [_]) _) _) _ = _
  rw [d1]
  rfl
end DX

namespace DX
open PySem PySem.Spec L2
/-! ### above -/
inductive Up (rs : List Row) : Str → Str → Prop
  | self {n : Str} : n ∈ names rs → Up rs n n
  | step {r : Row} {s u : Str} : r ∈ rs → s ∈ r.sup → Up rs s u → Up rs r.nm u
theorem Up.mem {rs : List Row} {n u : Str} (h : Up rs n u) : n ∈ names rs ∧ u ∈ names rs := by
  induction h with
  | self h => exact ⟨h, h⟩
  | step h1 h2 h3 ih => exact ⟨List.mem_map.mpr ⟨_, h1, rfl⟩, ih.2⟩
theorem row_one : ∀ {rs : List Row}, (names rs).Nodup → ∀ {r r' : Row}, r ∈ rs → r' ∈ rs → r.nm = r'.nm → r = r'
  | [], _, _, _, h, _, _ => by cases h
  | x :: l, nd, r, r', h, h', e => by
    have nd' : (x.nm :: names l).Nodup := nd
    obtain ⟨n1, n2⟩ := List.nodup_cons.mp nd'
    rcases List.mem_cons.mp h with z | z <;> rcases List.mem_cons.mp h' with z' | z'
    · rw [z, z']
    · subst z
      exact absurd (List.mem_map.mpr ⟨r', z', e.symm⟩) n1
    · subst z'
      exact absurd (List.mem_map.mpr ⟨r, z, e⟩) n1
    · exact row_one n2 z z' e
theorem up_row {rs : List Row} (nd : (names rs).Nodup) {r : Row} (h : r ∈ rs) {u : Str} : Up rs r.nm u ↔ u = r.nm ∨ ∃ s ∈ r.sup, Up rs s u := by
  constructor
  · intro q
    generalize e : r.nm = n at q
    cases q with
    | self _ => exact .inl rfl
    | @step r' s _ h1 h2 h3 =>
      have := row_one nd h h1 e
      subst this
      exact .inr ⟨s, h2, h3⟩
  · rintro (rfl | ⟨s, h1, h2⟩)
    · exact .self (List.mem_map.mpr ⟨r, h, rfl⟩)
    · exact .step h h1 h2
/-- a table of the first i rows -/
structure Tab (rs : List Row) (i : Nat) (T : List (Str × List Str)) : Prop where
  keys : T.map (·.1) = names (rs.take i)
  mem : ∀ p ∈ T, ∀ u, u ∈ p.2 ↔ Up rs p.1 u
  nd : ∀ p ∈ T, p.2.Nodup
theorem nodup_sub {α : Type} [DecidableEq α] : ∀ {l m : List α}, l.Nodup → (∀ x ∈ l, x ∈ m) → l.length ≤ m.length
  | [], _, _, _ => Nat.zero_le _
  | x :: l, m, h, s => by
    obtain ⟨h1, h2⟩ := List.nodup_cons.mp h
    have hx := s x List.mem_cons_self
    have ih := nodup_sub (l := l) (m := m.erase x) h2 fun y hy => (List.mem_erase_of_ne fun e => h1 (by rw [← e]; exact hy)).mpr (s y (List.mem_cons_of_mem _ hy))
    have hl := List.length_erase_of_mem hx
    have hp := List.length_pos_of_mem hx
    rw [List.length_cons]
    omega
theorem Tab.len {rs : List Row} {i : Nat} {T : List (Str × List Str)} (t : Tab rs i T) {p : Str × List Str} (h : p ∈ T) : p.2.length ≤ rs.length := by
  have q := nodup_sub (m := names rs) (t.nd p h) fun u hu => ((t.mem p h u).mp hu).mem.2
  simpa [names] using q
/-- look-up by a key that is there -/
theorem get_tab {T : List (Str × List Str)} {enc : List Str → D} {s : Str} (h : s ∈ T.map (·.1)) : ∃ p ∈ T, p.1 = s ∧ dGet (T.map fun p => ((Sum.inr p.1 : Key), enc p.2)) (.inr s) = some (enc p.2) := by
  induction T with
  | nil => simp at h
  | cons p T ih =>
    by_cases e : p.1 = s
    · refine ⟨p, List.mem_cons_self, e, ?_⟩
      unfold dGet
      rw [List.map_cons, List.find?_cons]
      simp [e]
    · have h' : s ∈ T.map (·.1) := by
        rcases List.mem_cons.mp h with z | z
        · exact absurd z.symm e
        · exact z
      obtain ⟨q, h1, h2, h3⟩ := ih h'
      refine ⟨q, List.mem_cons_of_mem _ h1, h2, ?_⟩
      unfold dGet at h3 ⊢
      rw [List.map_cons, List.find?_cons]
      have : decide ((Sum.inr p.1 : Key) = Sum.inr s) = false := by simp [e]
      rw [this]
      exact h3
theorem put_tab {T : List (Str × List Str)} {enc : List Str → D} {s : Str} {us : List Str} (h : s ∉ T.map (·.1)) : dPut (T.map fun p => ((Sum.inr p.1 : Key), enc p.2)) (.inr s) (enc us) = (T ++ [(s, us)]).map fun p => ((Sum.inr p.1 : Key), enc p.2) := by
  unfold dPut
  rw [if_neg]
  · simp
  · intro z
    rw [List.any_eq_true] at z
    obtain ⟨q, hq, e⟩ := z
    obtain ⟨p, hp, rfl⟩ := List.mem_map.mp hq
    have e := of_decide_eq_true e
    have e : p.1 = s := Sum.inr.inj e
    exact h (List.mem_map.mpr ⟨p, hp, e⟩)
theorem set_last {α : Type} {C : List α} {x y : α} : (C ++ [x]).set C.length y = C ++ [y] := by
  rw [List.set_append_right _ _ (Nat.le_refl _), Nat.sub_self]
  rfl
theorem tab_next {rs : List Row} (k : KOk rs) {i : Nat} {r : Row} (hr : rs[i]? = some r) {T : List (Str × List Str)} (t : Tab rs i T) {us : List Str} (h : ∀ u, u ∈ us ↔ Up rs r.nm u) (hn : us.Nodup) : Tab rs (i + 1) (T ++ [(r.nm, us)]) ∧ r.nm ∉ T.map (·.1) := by
  refine ⟨⟨?_, fun p hp => ?_, fun p hp => ?_⟩, ?_⟩
  · rw [List.map_append, t.keys, List.take_add_one, hr]
    simp [names]
  · rcases List.mem_append.mp hp with z | z
    · exact t.mem p z
    · rw [List.mem_singleton] at z; subst z; exact h
  · rcases List.mem_append.mp hp with z | z
    · exact t.nd p z
    · rw [List.mem_singleton] at z; subst z; exact hn
  · rw [t.keys]
    intro z
    have nd := k.nd
    have hi : i < rs.length := (List.getElem?_eq_some_iff.mp hr).1
    have e : names rs = names (rs.take i) ++ names (rs.drop i) := by
      unfold names
      rw [← List.map_append, List.take_append_drop]
    rw [e] at nd
    have hm : r.nm ∈ names (rs.drop i) := by
      refine List.mem_map.mpr ⟨r, ?_, rfl⟩
      refine List.mem_of_getElem? (i := 0) ?_
      rw [List.getElem?_drop]
      exact hr
    exact (List.nodup_append.mp nd).2.2 _ z _ hm rfl
end DX

namespace DX
open PySem PySem.Spec L2
def encL (us : List Str) : D := .lst (us.map D.str)
def tabL (T : List (Str × List Str)) : D := .dK (T.map fun p => ((Sum.inr p.1 : Key), encL p.2))
end DX

namespace DX
open PySem PySem.Spec L2
/-- KINDS as tuples or lists -/
structure IsK (K : D) (rs : List Row) (items : List D) : Prop where
  its : itemsOf K = some items
  len : items.length = rs.length
  row : ∀ (i : Nat) (r : Row), rs[i]? = some r → ∃ d sd, items[i]? = some d ∧ (d = .tup [.str r.nm, sd, .bl r.bare] ∨ d = .lst [.str r.nm, sd, .bl r.bare]) ∧ (sd = .tup (r.sup.map D.str) ∨ sd = .lst (r.sup.map D.str))
def eK (us : List Str) : List (Key × D) := us.map fun u => ((Sum.inr u : Key), D.bl true)
def encD (us : List Str) : D := .dK (eK us)
def tabD (T : List (Str × List Str)) : D := .dK (T.map fun p => ((Sum.inr p.1 : Key), encD p.2))
def put1 (us : List Str) (v : Str) : List Str := if v ∈ us then us else us ++ [v]
theorem put_eK (us : List Str) (v : Str) : dPut (eK us) (.inr v) (.bl true) = eK (put1 us v) := by
  unfold dPut put1
  by_cases h : v ∈ us
  · rw [if_pos h, if_pos]
    · unfold eK
      rw [List.map_map]
      refine List.map_congr_left fun u hu => ?_
      by_cases e : u = v
      · subst e; simp
      · simp [e]
    · rw [List.any_eq_true]
      exact ⟨(.inr v, .bl true), List.mem_map.mpr ⟨v, h, rfl⟩, by simp⟩
  · rw [if_neg h, if_neg]
    · simp [eK]
    · intro z
      rw [List.any_eq_true] at z
      obtain ⟨q, hq, e⟩ := z
      obtain ⟨u, hu, rfl⟩ := List.mem_map.mp hq
      have e := Sum.inr.inj (of_decide_eq_true e)
      exact h (by rw [← e]; exact hu)
def join1 (us vs : List Str) : List Str := vs.foldl put1 us
theorem merge_eK : ∀ (vs us : List Str), mergeD (eK us) (eK vs) = eK (join1 us vs)
  | [], _ => rfl
  | v :: vs, us => by
    show mergeD (dPut (eK us) (.inr v) (.bl true)) (eK vs) = eK (join1 (put1 us v) vs)
    rw [put_eK, merge_eK vs]
theorem mem_put1 {us : List Str} {v u : Str} : u ∈ put1 us v ↔ u ∈ us ∨ u = v := by
  unfold put1
  by_cases h : v ∈ us
  · rw [if_pos h]
    exact ⟨.inl, fun z => z.elim id fun e => by rw [e]; exact h⟩
  · rw [if_neg h, List.mem_append, List.mem_singleton]
theorem mem_join1 {u : Str} : ∀ {vs us : List Str}, u ∈ join1 us vs ↔ u ∈ us ∨ u ∈ vs
  | [], us => by simp [join1]
  | v :: vs, us => by
    show u ∈ join1 (put1 us v) vs ↔ _
    rw [mem_join1, mem_put1, List.mem_cons, or_assoc]
theorem nd_join1 : ∀ {vs us : List Str}, us.Nodup → (join1 us vs).Nodup
  | [], _, h => h
  | v :: vs, us, h => by
    show (join1 (put1 us v) vs).Nodup
    refine nd_join1 ?_
    unfold put1
    by_cases e : v ∈ us
    · rw [if_pos e]; exact h
    · rw [if_neg e]
      exact List.nodup_append.mpr ⟨h, List.nodup_cons.mpr ⟨fun z => (by cases z), List.nodup_nil⟩, fun a ha b hb q => by
        rw [List.mem_singleton] at hb
        subst hb
        subst q
        exact e ha⟩
/-- nothing, or data -/
def okO (o : Option Sv) : Prop := o = none ∨ ∃ d, o = some (.dat d)
theorem okO.frz {o : Option Sv} (h : okO o) (n : Nat) (C : Store) : o.bind (frzV n C) = o := by
  rcases h with rfl | ⟨d, rfl⟩ <;> rfl
def pEnv (K : D) (n : Nat) (o2 o3 o4 o5 o6 : Option Sv) : Env := [some (.dat K), some (.cel n), o2, o3, o4, o5, o6]
theorem upp_in {rs : List Row} {K : D} {C : Store} {i : Nat} {r : Row} {T : List (Str × List Str)} {o2 o3 o4 o6 : Option Sv} (k : KOk rs) (h8 : rs.length ≤ 8) (hr : rs[i]? = some r) (t : Tab rs i T) (q6 : okO o6) :
    ∃ (us : List Str) (o6' : Option Sv), forL [] (bName 6) (sDrop (eUpd (eVar 5) (eBin dIx (eVar 1) (eVar 6)))) (r.sup.map D.str) (pEnv K C.length o2 o3 o4 (some (.cel (C.length + 1))) o6) (C ++ [tabD T] ++ [encD [r.nm]]) =
      some (.nx (pEnv K C.length o2 o3 o4 (some (.cel (C.length + 1))) o6'), C ++ [tabD T] ++ [encD us]) ∧ us.Nodup ∧ (∀ u, u ∈ us ↔ Up rs r.nm u) ∧ okO o6' := by
  have hi : i < rs.length := (List.getElem?_eq_some_iff.mp hr).1
  have hmem : r ∈ rs := List.mem_of_getElem? hr
  obtain ⟨g1, g2⟩ := k.good i r hr
  let I : Nat → Env → Store → Prop := fun j ρ C' => ∃ (us : List Str) (o : Option Sv), ρ = pEnv K C.length o2 o3 o4 (some (.cel (C.length + 1))) o ∧ C' = C ++ [tabD T] ++ [encD us] ∧ us.Nodup ∧ (∀ u, u ∈ us ↔ (u = r.nm ∨ ∃ s ∈ r.sup.take j, Up rs s u)) ∧ okO o
  obtain ⟨ρ', C', e, us, o, hρ, hC, hn, hm, ho⟩ := for_inv (cels := []) (b := bName 6) (body := sDrop (eUpd (eVar 5) (eBin dIx (eVar 1) (eVar 6)))) (items := r.sup.map D.str) (I := I) (ρ := pEnv K C.length o2 o3 o4 (some (.cel (C.length + 1))) o6) (C := C ++ [tabD T] ++ [encD [r.nm]])
    ⟨[r.nm], o6, rfl, rfl, by simp, fun u => by simp, q6⟩ (by
      intro j d ρ C' hd ⟨us, o, hρ, hC, hn, hm, ho⟩
      subst hρ
      subst hC
      rw [List.getElem?_map] at hd
      cases hs : r.sup[j]? with
      | none => rw [hs] at hd; cases hd
      | some s =>
        rw [hs] at hd
        cases hd
        obtain ⟨p, p1, p2, p3⟩ := get_tab (enc := encD) (s := s) (T := T) (by rw [t.keys]; exact g1 s (List.mem_of_getElem? hs))
        have pl := t.len p1
        have ul : us.length ≤ 8 := by
          have q := nodup_sub (m := names rs) hn fun u hu => by
            rcases (hm u).mp hu with z | ⟨s', _, z⟩
            · rw [z]; exact List.mem_map.mpr ⟨r, hmem, rfl⟩
            · exact z.mem.2
          have : (names rs).length = rs.length := by simp [names]
          omega
        have hz : (eK us).length + (eK p.2).length ≤ sizeLine := Nat.le_trans (by simp [eK]; omega : (eK us).length + (eK p.2).length ≤ 1000) (small_line (Nat.le_refl _))
        refine ⟨rfl, _, pEnv K C.length o2 o3 o4 (some (.cel (C.length + 1))) (some (.dat (.str s))), C ++ [tabD T] ++ [encD (join1 us p.2)], rfl, ?_, join1 us p.2, _, rfl, rfl, nd_join1 hn, fun u => ?_, .inr ⟨_, rfl⟩⟩
        · have q : dIx (tabD T) (.str s) = some (encD p.2) := by
            show (some (dGet (T.map fun p => ((Sum.inr p.1 : Key), encD p.2)) (.inr s))).join = _
            rw [p3]
            rfl
          have hc : ∀ X : D, (C ++ [tabD T] ++ [X])[C.length]? = some (tabD T) := fun X => by
            rw [List.getElem?_append_left (by simp)]
            exact List.getElem?_concat_length
          have hc2 : ∀ X : D, (C ++ [tabD T] ++ [X])[C.length + 1]? = some X := fun X => by
            have e : C.length + 1 = (C ++ [tabD T]).length := by simp
            rw [e]
            exact List.getElem?_concat_length
          have hs2 : ∀ X Y : D, (C ++ [tabD T] ++ [X]).set (C.length + 1) Y = C ++ [tabD T] ++ [Y] := fun X Y => by
            have e : C.length + 1 = (C ++ [tabD T]).length := by simp
            rw [e]
            exact set_last
          have hu : unlk (tabD T) = tabD T := rfl
          have dc : dictCel (C ++ [tabD T] ++ [encD us]) (.cel (C.length + 1)) = some (C.length + 1, eK us) := by
            unfold dictCel
            dsimp only
            rw [hc2]
            rfl
          have ev : eUpd (eVar 5) (eBin dIx (eVar 1) (eVar 6)) (pEnv K C.length o2 o3 o4 (some (.cel (C.length + 1))) (some (.dat (.str s)))) (C ++ [tabD T] ++ [encD us]) = some (.dat .non, C ++ [tabD T] ++ [encD (join1 us p.2)]) := by
            have f1 : eVar 5 (pEnv K C.length o2 o3 o4 (some (.cel (C.length + 1))) (some (.dat (.str s)))) (C ++ [tabD T] ++ [encD us]) = some (.cel (C.length + 1), C ++ [tabD T] ++ [encD us]) := rfl
            have f2 : eBin dIx (eVar 1) (eVar 6) (pEnv K C.length o2 o3 o4 (some (.cel (C.length + 1))) (some (.dat (.str s)))) (C ++ [tabD T] ++ [encD us]) = some (.dat (encD p.2), C ++ [tabD T] ++ [encD us]) := by
              have g1 : eVar 1 (pEnv K C.length o2 o3 o4 (some (.cel (C.length + 1))) (some (.dat (.str s)))) (C ++ [tabD T] ++ [encD us]) = some (.cel C.length, C ++ [tabD T] ++ [encD us]) := rfl
              have g2 : eVar 6 (pEnv K C.length o2 o3 o4 (some (.cel (C.length + 1))) (some (.dat (.str s)))) (C ++ [tabD T] ++ [encD us]) = some (.dat (.str s), C ++ [tabD T] ++ [encD us]) := rfl
              rw [e_bin, g1, bnd_s, g2, bnd_s, see_c, hc, Option.map_some, bn1_s, see_d, bn1_s, hu, q, bn1_s]
            unfold eUpd
            rw [f1, bnd_s, dc, bn1_s, f2, bnd_s, dc, bn1_s]
            show gd ((eK us).length + (eK p.2).length ≤ sizeLine) _ = _
            rw [gd_t hz, hs2, merge_eK]
            rfl
          show bnd (eUpd (eVar 5) (eBin dIx (eVar 1) (eVar 6)) (pEnv K C.length o2 o3 o4 (some (.cel (C.length + 1))) (some (.dat (.str s)))) (C ++ [tabD T] ++ [encD us])) _ = _
          rw [ev]
          rfl
        · rw [mem_join1, hm u, t.mem p p1 u, p2, List.take_add_one, hs]
          constructor
          · rintro ((z | ⟨s', h1, h2⟩) | z)
            · exact .inl z
            · exact .inr ⟨s', List.mem_append_left _ h1, h2⟩
            · exact .inr ⟨s, by simp, z⟩
          · rintro (z | ⟨s', h1, h2⟩)
            · exact .inl (.inl z)
            · rcases List.mem_append.mp h1 with z | z
              · exact .inl (.inr ⟨s', z, h2⟩)
              · have : s' = s := by simpa using z
                subst this
                exact .inr h2) (fun _ _ _ => rfl)
  subst hρ
  subst hC
  rw [List.length_map] at hm
  refine ⟨us, o, e, hn, fun u => ?_, ho⟩
  rw [hm u, List.take_length, up_row k.nd hmem]
end DX

namespace DX
open PySem PySem.Spec L2
theorem frz_last {C : Store} {X Y : D} {K : D} {o2 o3 o4 o6 : Option Sv} (h2 : okO o2) (h3 : okO o3) (h4 : okO o4) (h6 : okO o6) (nl : nolk Y = true) :
    frzE (C ++ [X]).length (C ++ [X] ++ [Y]) (pEnv K C.length o2 o3 o4 (some (.cel (C.length + 1))) o6) = pEnv K C.length o2 o3 o4 (some (.dat Y)) o6 := by
  have e : C.length + 1 = (C ++ [X]).length := by simp
  have hc : (C ++ [X] ++ [Y])[C.length + 1]? = some Y := by rw [e]; exact List.getElem?_concat_length
  have a : frzV (C ++ [X]).length (C ++ [X] ++ [Y]) (.cel C.length) = some (.cel C.length) := by
    unfold frzV
    dsimp only
    rw [if_pos (by simp)]
  have b : frzV (C ++ [X]).length (C ++ [X] ++ [Y]) (.cel (C.length + 1)) = some (.dat Y) := by
    unfold frzV
    dsimp only
    rw [if_neg (by simp)]
    rw [hc]
    dsimp only
    rw [if_pos nl]
  unfold frzE pEnv
  simp only [List.map_cons, List.map_nil, h2.frz, h3.frz, h4.frz, h6.frz, Option.bind_some, a, b]
  rfl
theorem uppers_ok {rs : List Row} {K : D} {items : List D} {C : Store} (k : KOk rs) (h8 : rs.length ≤ 8) (hK : IsK K rs items) : ∃ T, M_uppers [.dat K] C = some (.dat (tabD T), C) ∧ Tab rs rs.length T := by
  let I : Nat → Env → Store → Prop := fun i ρ C' => ∃ (o2 o3 o4 o5 o6 : Option Sv) (T : List (Str × List Str)), ρ = pEnv K C.length o2 o3 o4 o5 o6 ∧ C' = C ++ [tabD T] ∧ Tab rs i T ∧ okO o6
  have step : ∀ i d ρ C', items[i]? = some d → I i ρ C' → stays C' [] = true ∧ ∃ ρ1 ρ2 C1, bSeq 3 (bCons (bName 2) (bCons (bName 3) (bCons (bName 4) bNil))) d ρ = some ρ1 ∧ (sSeq (sFrz (sSeq (sNew 5 (nDsp (eVar 2) (eC (.bl true))))
    (sFor (iSq (eVar 3)) (bName 6) (sDrop (eUpd (eVar 5) (eBin dIx (eVar 1) (eVar 6)))))))
    (sPut (eVar 5) (eVar 1) (eVar 2))) ρ1 C' = some (.nx ρ2, C1) ∧ I (i + 1) ρ2 C1 := by
    intro i d ρ C' hd ⟨o2, o3, o4, o5, o6, T, hρ, hC, t, q6⟩
    subst hρ
    subst hC
    have hi : i < rs.length := by
      have := (List.getElem?_eq_some_iff.mp hd).1
      rwa [hK.len] at this
    obtain ⟨d', sd, e1, hd2, hsd⟩ := hK.row i rs[i] (List.getElem?_eq_getElem hi)
    rw [hd] at e1
    cases e1
    generalize hr0 : rs[i] = r at *
    have hr : rs[i]? = some r := by rw [← hr0]; exact List.getElem?_eq_getElem hi
    obtain ⟨us, o6', e, hn, hm, ho6⟩ := upp_in (K := K) (C := C) (o6 := o6) (o2 := some (.dat (.str r.nm))) (o3 := some (.dat sd)) (o4 := some (.dat (.bl r.bare))) k h8 hr t q6
    obtain ⟨t', nm⟩ := tab_next k hr t hm hn
    have tl : T.length ≤ 8 := by
      have q := congrArg List.length t.keys
      simp [names] at q
      omega
    have hT : T.length < sizeLine := Nat.lt_of_lt_of_le (by omega : T.length < 1000) (small_line (Nat.le_refl _))
    have its : itemsOf sd = some (r.sup.map D.str) := by rcases hsd with z | z <;> rw [z] <;> rfl
    let ρ1 := pEnv K C.length (some (.dat (.str r.nm))) (some (.dat sd)) (some (.dat (.bl r.bare))) o5 o6
    let ρ2 := pEnv K C.length (some (.dat (.str r.nm))) (some (.dat sd)) (some (.dat (.bl r.bare))) (some (.cel (C.length + 1))) o6
    let ρ3 := pEnv K C.length (some (.dat (.str r.nm))) (some (.dat sd)) (some (.dat (.bl r.bare))) (some (.cel (C.length + 1))) o6'
    let ρ4 := pEnv K C.length (some (.dat (.str r.nm))) (some (.dat sd)) (some (.dat (.bl r.bare))) (some (.dat (encD us))) o6'
    have hb : bSeq 3 (bCons (bName 2) (bCons (bName 3) (bCons (bName 4) bNil))) d (pEnv K C.length o2 o3 o4 o5 o6) = some ρ1 := by rcases hd2 with z | z <;> rw [z] <;> rfl
    have a1 : sNew 5 (nDsp (eVar 2) (eC (.bl true))) ρ1 (C ++ [tabD T]) = some (.nx ρ2, C ++ [tabD T] ++ [encD [r.nm]]) := by
      have q : nDsp (eVar 2) (eC (.bl true)) ρ1 (C ++ [tabD T]) = some (encD [r.nm], C ++ [tabD T]) := rfl
      rw [s_new, q, bnd_s]
      have e : (C ++ [tabD T]).length = C.length + 1 := by simp
      rw [e]
      rfl
    have a2 : sFor (iSq (eVar 3)) (bName 6) (sDrop (eUpd (eVar 5) (eBin dIx (eVar 1) (eVar 6)))) ρ2 (C ++ [tabD T] ++ [encD [r.nm]]) = some (.nx ρ3, C ++ [tabD T] ++ [encD us]) := by
      have q : iSq (eVar 3) ρ2 (C ++ [tabD T] ++ [encD [r.nm]]) = some (⟨r.sup.map D.str, []⟩, C ++ [tabD T] ++ [encD [r.nm]]) := by
        show bn1 (itemsOf sd) _ = _
        rw [its]
        rfl
      unfold sFor
      rw [q, bnd_s]
      exact e
    have a3 : sFrz (sSeq (sNew 5 (nDsp (eVar 2) (eC (.bl true)))) (sFor (iSq (eVar 3)) (bName 6) (sDrop (eUpd (eVar 5) (eBin dIx (eVar 1) (eVar 6)))))) ρ1 (C ++ [tabD T]) = some (.nx ρ4, C ++ [tabD T]) := by
      unfold sFrz
      rw [s_seq, a1, bnd_s]
      dsimp only
      rw [a2, bnd_s]
      unfold frzF
      dsimp only
      rw [frz_last (.inr ⟨_, rfl⟩) (.inr ⟨_, rfl⟩) (.inr ⟨_, rfl⟩) ho6 rfl, bn1_s, List.take_left']
      rfl
    have hc : (C ++ [tabD T])[C.length]? = some (tabD T) := List.getElem?_concat_length
    have a4 : sPut (eVar 5) (eVar 1) (eVar 2) ρ4 (C ++ [tabD T]) = some (.nx ρ4, C ++ [tabD (T ++ [(r.nm, us)])]) := by
      have q : putAt (tabD T) (.str r.nm) (encD us) = some (tabD (T ++ [(r.nm, us)])) := by
        have q0 : putAt (tabD T) (.str r.nm) (encD us) = gd ((T.map fun p => ((Sum.inr p.1 : Key), encD p.2)).length < sizeLine) (some (D.dK (dPut (T.map fun p => ((Sum.inr p.1 : Key), encD p.2)) (Sum.inr r.nm) (encD us)))) := rfl
        rw [q0, gd_t (by rw [List.length_map]; exact hT), put_tab nm]
        rfl
      simp [ρ4, pEnv, hc, q]
    refine ⟨rfl, ρ1, ρ4, C ++ [tabD (T ++ [(r.nm, us)])], hb, ?_, _, _, _, _, _, _, rfl, rfl, t', ho6⟩
    rw [s_seq, a3, bnd_s]
    exact a4
  obtain ⟨ρ', C', e, o2, o3, o4, o5, o6, T, hρ, hC, t, _⟩ := for_inv (cels := []) (b := bSeq 3 (bCons (bName 2) (bCons (bName 3) (bCons (bName 4) bNil)))) (items := items) (I := I) (ρ := pEnv K C.length none none none none none) (C := C ++ [tabD []]) ⟨none, none, none, none, none, [], rfl, rfl, ⟨rfl, (fun p h => by cases h), (fun p h => by cases h)⟩, .inl rfl⟩ step (fun _ _ _ => rfl)
  subst hρ
  subst hC
  rw [hK.len] at t
  refine ⟨T, ?_, t⟩
  unfold M_uppers
  rw [runE_eq (by rfl)]
  unfold m_uppers
  rw [s_seq, s_new]
  have e0 : nDK (startE 7 [Sv.dat K]) C = some (.dK [], C) := rfl
  rw [e0, bnd_s, bnd_s]
  dsimp only
  have e1 : (startE 7 [Sv.dat K]).set 1 (some (.cel C.length)) = pEnv K C.length none none none none none := rfl
  have e2 : sFor (iSq (eVar 0)) (bSeq 3 (bCons (bName 2) (bCons (bName 3) (bCons (bName 4) bNil)))) (sSeq (sFrz (sSeq (sNew 5 (nDsp (eVar 2) (eC (.bl true))))
    (sFor (iSq (eVar 3)) (bName 6) (sDrop (eUpd (eVar 5) (eBin dIx (eVar 1) (eVar 6)))))))
    (sPut (eVar 5) (eVar 1) (eVar 2))) (pEnv K C.length none none none none none) (C ++ [.dK []]) = some (.nx (pEnv K C.length o2 o3 o4 o5 o6), C ++ [tabD T]) := by
    have q : iSq (eVar 0) (pEnv K C.length none none none none none) (C ++ [.dK []]) = some (⟨items, []⟩, C ++ [.dK []]) := by
      show bn1 (itemsOf K) _ = _
      rw [hK.its]
      rfl
    unfold sFor
    rw [q, bnd_s]
    exact e
  rw [e1, s_seq, e2, bnd_s]
  have hc : (C ++ [tabD T])[C.length]? = some (tabD T) := List.getElem?_concat_length
  have nl : nolk (tabD T) = true := rfl
  simp [pEnv, fin, hc, gd, nl]
end DX

namespace DX
open PySem PySem.Spec L2
theorem in_eK {us : List Str} {b : Str} : dIn (.str b) (encD us) = some (.bl (decide (b ∈ us))) := by
  have q : (dGet (eK us) (.inr b)).isSome = decide (b ∈ us) := by
    induction us with
    | nil => rfl
    | cons u us ih =>
      unfold dGet at ih ⊢
      unfold eK at ih ⊢
      rw [List.map_cons, List.find?_cons]
      by_cases e : u = b
      · subst e
        simp
      · have h1 : decide ((Sum.inr u : Key) = Sum.inr b) = false := by simp [e]
        rw [h1]
        dsimp only
        rw [ih]
        have : (b ∈ u :: us) ↔ b ∈ us := by
          rw [List.mem_cons]
          exact ⟨fun z => z.elim (fun w => absurd w.symm e) id, .inr⟩
        simp only [this]
  unfold dIn
  have r : inB (.str b) (encD us) = some ((dGet (eK us) (.inr b)).isSome) := by
    first | rfl | (simp [inB, encD, dictAt, dKey])
  rw [r, bn1_s, q]
/-- d[a] of a table -/
theorem ix_tab {rs : List Row} {i : Nat} {T : List (Str × List Str)} (t : Tab rs i T) {a : Str} (h : a ∈ names (rs.take i)) {enc : List Str → D} : ∃ us, (∀ u, u ∈ us ↔ Up rs a u) ∧ us.Nodup ∧ dIx (.dK (T.map fun p => ((Sum.inr p.1 : Key), enc p.2))) (.str a) = some (enc us) := by
  obtain ⟨p, p1, p2, p3⟩ := get_tab (enc := enc) (s := a) (T := T) (by rw [t.keys]; exact h)
  refine ⟨p.2, fun u => by rw [t.mem p p1 u, p2], t.nd p p1, ?_⟩
  show (some (dGet (T.map fun p => ((Sum.inr p.1 : Key), enc p.2)) (.inr a))).join = _
  rw [p3]
  rfl
end DX

namespace DX
open PySem PySem.Spec L2
def encS (s : List Str) : D := .tup (s.map D.str)
def ext1 (rows : List (List Str)) (col : List Str) : List (List Str) := rows.flatMap fun r => col.map fun m => r ++ [m]
theorem ext1_len (rows : List (List Str)) (col : List Str) : (ext1 rows col).length = rows.length * col.length := by
  unfold ext1
  induction rows with
  | nil => simp
  | cons r rs ih => rw [List.flatMap_cons, List.length_append, List.length_map, ih, List.length_cons, Nat.succ_mul, Nat.add_comm]
theorem ext1_enc (rows : List (List Str)) (col : List Str) : (ext1 rows col).map encS = (rows.map encS).flatMap fun d => (col.map D.str).map fun m => match d, m with | .tup xs, m => .tup (xs ++ [m]) | _, _ => .non := by
  unfold ext1
  induction rows with
  | nil => rfl
  | cons r rs ih =>
    rw [List.flatMap_cons, List.map_append, List.map_cons, List.flatMap_cons, ih]
    congr 1
    rw [List.map_map, List.map_map]
    refine List.map_congr_left fun m _ => ?_
    simp [encS]
def prodS (cols : List (List Str)) : List (List Str) := cols.foldl ext1 [[]]
def hd0 : D → D
  | .tup (x :: _) => x
  | .lst (x :: _) => x
  | _ => .non
theorem IsK.hds {K : D} {rs : List Row} {items : List D} (h : IsK K rs items) : items.map hd0 = (names rs).map D.str := by
  refine List.ext_getElem? fun i => ?_
  rw [List.getElem?_map, List.getElem?_map]
  unfold names
  rw [List.getElem?_map]
  cases hr : rs[i]? with
  | none =>
    have : items[i]? = none := by
      rw [List.getElem?_eq_none_iff] at hr ⊢
      rw [h.len]
      exact hr
    rw [this]
    rfl
  | some r =>
    obtain ⟨d, sd, e1, e2, _⟩ := h.row i r hr
    rw [e1]
    rcases e2 with z | z <;> rw [z] <;> rfl
theorem IsK.ix0 {K : D} {rs : List Row} {items : List D} (h : IsK K rs items) {d : D} (hd : d ∈ items) : dIx d (.int 0) = some (hd0 d) := by
  obtain ⟨i, hi, rfl⟩ := List.mem_iff_getElem.mp hd
  have hi2 : i < rs.length := by rw [← h.len]; exact hi
  obtain ⟨d', sd, e1, e2, _⟩ := h.row i rs[i] (List.getElem?_eq_getElem hi2)
  rw [List.getElem?_eq_getElem hi] at e1
  have e1 := Option.some.inj e1
  rw [e1]
  rcases e2 with z | z <;> rw [z] <;> exact at0 _ _
def asc (rs : List Row) : List Str := sortStr (names rs)
theorem asc_len (rs : List Row) : (asc rs).length = rs.length := by
  unfold asc
  rw [(sortStr_perm _).length_eq]
  simp [names]
theorem iSq_eq {f : SE} {ρ : Env} {C : Store} : iSq f ρ C = bnd (f ρ C) fun v C1 => bn1 (see C1 v) fun d => bn1 (itemsOf d) fun xs => some (⟨xs, keepOf C1 v⟩, C1) := rfl
theorem nLc_eq {si : SI} {b : D → Env → Option Env} {tt : ST} {te : SE} {vs : List Nat} {ρ : Env} {C : Store} : nLc si b tt te vs ρ C = bnd (si ρ C) fun src C1 => gd (src.items.length ≤ sizeLine) (bnd (compL src.cels b tt te (wipeE ρ vs) src.items C1) fun zs C2 => some (.lst zs, C2)) := rfl
def shEnv (K : D) (p : Nat) (f : D) (o3 o4 o5 : Option Sv) : Env := [some (.dat K), some (.dat (.int p)), some (.dat f), o3, o4, o5, none, none]
def encSs (rows : List (List Str)) : D := .lst (rows.map encS)
theorem prod_succ (n : Nat) (c : List Str) : prodS (List.replicate (n + 1) c) = ext1 (prodS (List.replicate n c)) c := by
  unfold prodS
  rw [List.replicate_succ', List.foldl_append]
  rfl
theorem prod_len (n : Nat) (c : List Str) : (prodS (List.replicate n c)).length = c.length ^ n := by
  induction n with
  | zero => rfl
  | succ n ih => rw [prod_succ, ext1_len, ih, Nat.pow_succ]
theorem prod_row (n : Nat) (c : List Str) : ∀ r ∈ prodS (List.replicate n c), r.length = n := by
  induction n with
  | zero => intro r h; simp [prodS] at h; simp [h]
  | succ n ih =>
    intro r h
    rw [prod_succ] at h
    unfold ext1 at h
    obtain ⟨r0, q1, q2⟩ := List.mem_flatMap.mp h
    obtain ⟨m, q3, rfl⟩ := List.mem_map.mp q2
    rw [List.length_append, ih r0 q1]
    rfl
theorem in_encL {us : List Str} {b : Str} (hu : ∀ u ∈ us, PyData.strOk u = true) (hb : PyData.strOk b = true) : dIn (.str b) (encL us) = some (.bl (decide (b ∈ us))) := by
  have s1 : shp (.str b) = true := shp_of (n := 1) (show okD 1 (.str b) = true from hb) (by omega)
  have s2 : shp (.lst (us.map D.str)) = true := shp_of (n := 1) (ok_strs hu) (by omega)
  have q : ∀ l : List Str, ((l.map D.str).any fun z => eqvD z (.str b)) = decide (b ∈ l) := by
    intro l
    induction l with
    | nil => rfl
    | cons x r ih =>
      rw [List.map_cons, List.any_cons, ih]
      have e : eqvD (.str x) (.str b) = decide (x = b) := by
        simp [eqvD, toPy, PyData.eqv]
        rw [Bool.eq_iff_iff]
        simp
      rw [e]
      by_cases h : x = b
      · subst h; simp
      · have h' : ¬ b = x := fun z => h z.symm
        simp [h, h']
  have r : inB (.str b) (encL us) = gd (shp (.str b) = true ∧ shp (.lst (us.map D.str)) = true) (some ((us.map D.str).any fun z => eqvD z (.str b))) := rfl
  unfold dIn
  rw [r, gd_t ⟨s1, s2⟩, bn1_s, q]
theorem strs_eq : ∀ a b : List Str, PyData.eqvAll (toPyL (a.map D.str)) (toPyL (b.map D.str)) = decide (a = b)
  | [], [] => by simp [toPyL, PyData.eqvAll]
  | [], _ :: _ => by simp [toPyL, PyData.eqvAll]
  | _ :: _, [] => by simp [toPyL, PyData.eqvAll]
  | x :: a, y :: b => by
    have ih := strs_eq a b
    simp only [List.map_cons, toPyL, PyData.eqvAll, ih]
    simp only [toPy, PyData.eqv]
    rw [Bool.eq_iff_iff]
    simp
theorem eqv_S (a b : List Str) : eqvD (encS a) (encS b) = decide (a = b) := strs_eq a b
theorem ok_S {a : List Str} (h : ∀ x ∈ a, PyData.strOk x = true) {n : Nat} : okD (n + 1) (encS a) = true := by
  show okDs n (a.map D.str) = true
  rw [okDs_all]
  intro d hd
  obtain ⟨u, hu, rfl⟩ := List.mem_map.mp hd
  cases n <;> exact h u hu
theorem ne_S {a b : List Str} (ha : ∀ x ∈ a, PyData.strOk x = true) (hb : ∀ x ∈ b, PyData.strOk x = true) : dNe (encS a) (encS b) = some (.bl (!decide (a = b))) := by
  unfold dNe
  rw [gd_t ⟨shp_of (n := 1) (ok_S ha) (by omega), shp_of (n := 1) (ok_S hb) (by omega)⟩, eqv_S]
theorem ok_Ss {rows : List (List Str)} (h : ∀ r ∈ rows, ∀ x ∈ r, PyData.strOk x = true) {n : Nat} : okD (n + 2) (encSs rows) = true := by
  show okDs (n + 1) (rows.map encS) = true
  rw [okDs_all]
  intro d hd
  obtain ⟨r, hr, rfl⟩ := List.mem_map.mp hd
  exact ok_S (h r hr)
theorem eq_nil {rows : List (List Str)} (h : ∀ r ∈ rows, ∀ x ∈ r, PyData.strOk x = true) : dEq (encSs rows) (.lst []) = some (.bl (decide (rows = []))) := by
  have s1 : shp (encSs rows) = true := shp_of (n := 2) (ok_Ss h) (by omega)
  have s2 : shp (.lst []) = true := shp_of (n := 1) rfl (by omega)
  have s3 : eqvD (encSs rows) (.lst []) = decide (rows = []) := by
    cases rows with
    | nil => rfl
    | cons x r => simp [encSs, eqvD, toPy, toPyL, PyData.eqv, PyData.eqvAll]
  unfold dEq
  rw [gd_t ⟨s1, s2⟩, s3]
def undS : D → Str
  | .str x => x
  | _ => ⟨#[]⟩
def dec : D → List Str
  | .tup ds => ds.map undS
  | _ => []
theorem dec_enc (s : List Str) : dec (encS s) = s := by
  show (s.map D.str).map undS = s
  rw [List.map_map]
  exact (List.map_congr_left fun _ _ => rfl).trans (List.map_id s)
theorem filter_enc (p : List Str → Bool) (rows : List (List Str)) : (rows.map encS).filter (fun d => p (dec d)) = (rows.filter p).map encS := by
  induction rows with
  | nil => rfl
  | cons r rs ih =>
    rw [List.map_cons, List.filter_cons, List.filter_cons, ih, dec_enc]
    by_cases h : p r = true
    · rw [if_pos h, if_pos h]; rfl
    · rw [if_neg h, if_neg h]
def Shp (rs : List Row) (n : Nat) (s : List Str) : Prop := s.length = n ∧ ∀ x ∈ s, x ∈ names rs
theorem Shp.ok {rs : List Row} {n : Nat} {s : List Str} (k : KOk rs) (h : Shp rs n s) : ∀ x ∈ s, PyData.strOk x = true := fun x hx => strok_pool x (k.sub x (h.2 x hx))
noncomputable def upB (rs : List Row) (a b : Str) : Bool := @decide (Up rs a b) (Classical.propDecidable _)
theorem upB_iff {rs : List Row} {a b : Str} : upB rs a b = true ↔ Up rs a b := by
  unfold upB
  exact @decide_eq_true_iff _ (Classical.propDecidable _)
noncomputable def lowK (rs : List Row) (a b x : Str) : Bool := upB rs x a && upB rs x b
noncomputable def bothK (rs : List Row) (a b : Str) : List Str := (names rs).filter (lowK rs a b)
theorem ne_str {x y : Str} (hx : PyData.strOk x = true) (hy : PyData.strOk y = true) : dNe (.str x) (.str y) = some (.bl (!decide (x = y))) := by
  have e : eqvD (.str x) (.str y) = decide (x = y) := by
    simp [eqvD, toPy, PyData.eqv]
    rw [Bool.eq_iff_iff]
    simp
  unfold dNe
  rw [gd_t ⟨shp_of (n := 1) (show okD 1 (.str x) = true from hx) (by omega), shp_of (n := 1) (show okD 1 (.str y) = true from hy) (by omega)⟩, e]
theorem any_bl (l : List Str) (g : Str → Bool) : dAny [.lst ((l.map D.str).map fun d => .bl (g (undS d)))] = some (.bl (l.any g)) := by
  have b : dBools ((l.map D.str).map fun d => .bl (g (undS d))) = some (l.map g) := by
    induction l with
    | nil => rfl
    | cons x r ih => show bn1 (dBools ((r.map D.str).map fun d => .bl (g (undS d)))) _ = _; rw [ih]; rfl
  show bn1 (dBools _) _ = _
  rw [b, bn1_s, List.any_map]
  rfl
theorem filter_str (p : Str → Bool) (l : List Str) : (l.map D.str).filter (fun d => p (undS d)) = (l.filter p).map D.str := by
  induction l with
  | nil => rfl
  | cons r rs ih =>
    rw [List.map_cons, List.filter_cons, List.filter_cons, ih]
    show (if p r = true then _ else _) = _
    by_cases h : p r = true
    · rw [if_pos h, if_pos h]; rfl
    · rw [if_neg h, if_neg h]
theorem comp2_map {cels : List (Nat × D)} {b b1 : D → Env → Option Env} {si1 : SI} {te : SE} {vs1 : List Nat} {ρ : Env} {C : Store} {F : D → List D} (hs : stays C cels = true) : ∀ {items : List D},
    (∀ d ∈ items, ∃ ρ1 src, b d ρ = some ρ1 ∧ si1 ρ1 C = some (src, C) ∧ compL src.cels b1 tYes' te (wipeE ρ1 vs1) src.items C = some (F d, C)) →
    compL2 cels b tYes' si1 b1 tYes' te vs1 ρ items C = some (items.flatMap F, C)
  | [], _ => by unfold compL2; rw [gd_t hs]; rfl
  | d :: ds, h => by
    obtain ⟨ρ1, src, h1, h2, h3⟩ := h d List.mem_cons_self
    have ih := comp2_map (F := F) hs (items := ds) fun x hx => h x (List.mem_cons_of_mem _ hx)
    unfold compL2
    rw [gd_t hs, h1, bn1_s]
    show bnd (some (true, C)) _ = _
    rw [bnd_s, if_pos rfl, h2, bnd_s, h3, bnd_s, ih, bnd_s, List.flatMap_cons]
theorem flat_one {α : Type} (x : α) : ∀ p : Nat, (List.replicate p [x]).flatten = List.replicate p x
  | 0 => rfl
  | p + 1 => by rw [List.replicate_succ, List.flatten_cons, flat_one x p, List.replicate_succ]; rfl
end DX

namespace DX
open PySem PySem.Spec L2
/-! ### lists for tuples -/
mutual
def soft : D → D
  | .tup xs => .lst (softs xs)
  | .lst xs => .lst (softs xs)
  | d => d
def softs : List D → List D
  | [] => []
  | d :: ds => soft d :: softs ds
end
theorem softs_map : ∀ ds : List D, softs ds = ds.map soft
  | [] => by simp [softs]
  | d :: ds => by rw [softs, softs_map ds]; rfl
mutual
/-- n deep at the most, no list longer than 1000 -/
def szD : Nat → D → Bool
  | _, .non => true
  | _, .bl _ => true
  | _, .int _ => true
  | _, .str _ => true
  | n + 1, .tup xs => decide (xs.length ≤ 1000) && szDs n xs
  | n + 1, .lst xs => decide (xs.length ≤ 1000) && szDs n xs
  | _, _ => false
def szDs : Nat → List D → Bool
  | _, [] => true
  | n, d :: ds => szD n d && szDs n ds
end
theorem szDs_all {n : Nat} : ∀ {ds : List D}, szDs n ds = true ↔ ∀ d ∈ ds, szD n d = true
  | [] => by simp [szDs]
  | d :: ds => by
    unfold szDs
    rw [Bool.and_eq_true, szDs_all]
    simp
end DX

namespace DX
open PySem PySem.Spec L2
theorem all_true (n : Nat) : dAll [.lst (List.replicate n (.bl true))] = some (.bl true) := by
  have b : ∀ n : Nat, dBools (List.replicate n (.bl true)) = some (List.replicate n true) := by
    intro n
    induction n with
    | zero => rfl
    | succ n ih => rw [List.replicate_succ]; show bn1 (dBools (List.replicate n (.bl true))) _ = _; rw [ih]; rfl
  show bn1 (dBools _) _ = _
  rw [b, bn1_s]
  congr 2
  rw [List.all_eq_true]
  intro x hx
  rw [(List.mem_replicate.mp hx).2]
  rfl
theorem eq_sc {d : D} (h : d = .non ∨ (∃ b, d = .bl b) ∨ (∃ i, d = .int i) ∨ ∃ x, d = .str x ∧ PyData.strOk x = true) : dEq d d = some (.bl true) := by
  have s : shp d = true := by
    rcases h with rfl | ⟨b, rfl⟩ | ⟨i, rfl⟩ | ⟨x, rfl, hx⟩
    · exact shp_of (n := 1) rfl (by omega)
    · exact shp_of (n := 1) rfl (by omega)
    · exact shp_of (n := 1) rfl (by omega)
    · exact shp_of (n := 1) (show okD 1 (.str x) = true from hx) (by omega)
  have e : eqvD d d = true := by
    rcases h with rfl | ⟨b, rfl⟩ | ⟨i, rfl⟩ | ⟨x, rfl, hx⟩ <;> simp [eqvD, toPy, PyData.eqv]
  unfold dEq
  rw [gd_t ⟨s, s⟩, e]
theorem same_sc (n : Nat) {d : D} {C : Store} (h : d = .non ∨ (∃ b, d = .bl b) ∨ (∃ i, d = .int i) ∨ ∃ x, d = .str x ∧ PyData.strOk x = true) : M_Lsame (n + 1) [.dat d, .dat d] C = some (.dat (.bl true), C) := by
  have q := eq_sc h
  have qb : ∀ b : Bool, dEq (.bl b) (.bl b) = some (.bl true) := fun b => eq_sc (.inr (.inl ⟨b, rfl⟩))
  rcases h with rfl | ⟨b, rfl⟩ | ⟨i, rfl⟩ | ⟨x, rfl, hx⟩ <;>
    simp [M_Lsame, runE, m_Lsame, startE, eIsi2, eIsi, isTy, truD, gd, fin, List.replicate_succ, eAndV, eNotV, dIsN, isN, q, qb]
theorem same_ok : ∀ (n : Nat) (d : D) (C : Store), szD n d = true → okD n d = true → M_Lsame (n + 1) [.dat d, .dat d] C = some (.dat (.bl true), C) := by
  intro n
  induction n with
  | zero =>
    intro d C h h'
    cases d with
    | non => exact same_sc _ (.inl rfl)
    | bl b => exact same_sc _ (.inr (.inl ⟨b, rfl⟩))
    | int i => exact same_sc _ (.inr (.inr (.inl ⟨i, rfl⟩)))
    | str x => exact same_sc _ (.inr (.inr (.inr ⟨x, rfl, h'⟩)))
    | _ => simp [szD] at h
  | succ n ih =>
    intro d C h h'
    have seq : ∀ xs : List D, (xs.length ≤ 1000 ∧ ∀ d ∈ xs, szD n d = true ∧ okD n d = true) → (d = .lst xs ∨ d = .tup xs) → M_Lsame (n + 2) [.dat d, .dat d] C = some (.dat (.bl true), C) := fun xs hx hd => by
      let ρ : Env := [some (.dat d), some (.dat d), none, none]
      have c1 : compL [] (bSeq 2 (bCons (bName 2) (bCons (bName 3) bNil))) tYes' (eCall 2 (M_Lsame (n + 1)) (aCons (eVar 2) (aCons (eVar 3) aNil))) (wipeE ρ [2, 3]) (xs.map fun x => .tup [x, x]) C = some ((xs.map fun x => D.tup [x, x]).map (fun _ => .bl true), C) := by
        refine comp_map rfl fun z hz => ?_
        obtain ⟨y, hy, rfl⟩ := List.mem_map.mp hz
        have q := ih y C (hx.2 y hy).1 (hx.2 y hy).2
        refine ⟨_, rfl, ?_⟩
        simp [ρ, wipeE, gd, q]
      have z1 : zipD xs xs = xs.map fun x => .tup [x, x] := by
        unfold zipD
        have go : ∀ l : List D, l.zipWith (fun x y => D.tup [x, y]) l = l.map fun x => .tup [x, x] := fun l => by
          induction l with
          | nil => rfl
          | cons x r ih => rw [List.zipWith_cons_cons, List.map_cons, ih]
        exact go xs
      have i1 : iZp (aCons (eVar 0) (aCons (eVar 1) aNil)) ρ C = some (⟨xs.map fun x => .tup [x, x], []⟩, C) := by
        rw [← z1]
        rcases hd with rfl | rfl <;> rfl
      have e1 : ((xs.map fun x => D.tup [x, x]).map fun _ => D.bl true) = List.replicate xs.length (.bl true) := by
        rw [List.map_map]
        exact List.map_const'
      have n1 : nLc (iZp (aCons (eVar 0) (aCons (eVar 1) aNil))) (bSeq 2 (bCons (bName 2) (bCons (bName 3) bNil))) tYes' (eCall 2 (M_Lsame (n + 1)) (aCons (eVar 2) (aCons (eVar 3) aNil))) [2, 3] ρ C = some (.lst (List.replicate xs.length (.bl true)), C) := by
        rw [nLc_eq, i1, bnd_s, gd_t (by rw [List.length_map]; exact small_line hx.1), c1, bnd_s, e1]
      have qb : ∀ b : Bool, dNe (.bl b) (.bl b) = some (.bl false) := fun b => by
        unfold dNe
        rw [gd_t ⟨shp_of (n := 1) rfl (by omega), shp_of (n := 1) rfl (by omega)⟩]
        simp [eqvD, toPy, PyData.eqv]
      have qi : dEq (.int (xs.length : Int)) (.int (xs.length : Int)) = some (.bl true) := eq_sc (.inr (.inr (.inl ⟨_, rfl⟩)))
      have all := all_true xs.length
      have fin2 : eB dAll (aCons (eFr (nLc (iZp (aCons (eVar 0) (aCons (eVar 1) aNil))) (bSeq 2 (bCons (bName 2) (bCons (bName 3) bNil))) tYes' (eCall 2 (M_Lsame (n + 1)) (aCons (eVar 2) (aCons (eVar 3) aNil))) [2, 3])) aNil) ρ C = some (.dat (.bl true), C) := by
        rw [e_b, e_cons, e_fr, n1, bnd_s, gd_t (show nolk (D.lst _) = true from rfl), bnd_s, e_nil, bnd_s, bnd_s]
        show bn1 (dAll [.lst _]) _ = _
        rw [all]
        rfl
      show runE 4 2 (m_Lsame (M_Lsame (n + 1))) [.dat d, .dat d] C = _
      rw [runE_eq (by rfl)]
      unfold m_Lsame
      have e0 : startE 4 [Sv.dat d, Sv.dat d] = ρ := rfl
      rw [e0, s_seq, s_if]
      have t1 : tTru (eIsi2 Ty.list Ty.tuple (eVar 1)) ρ C = some (true, C) := by
        rcases hd with rfl | rfl <;> simp [ρ, eIsi2, isTy, truD]
      have t2 : tOr' (tB' (eBin dNe (eIsi Ty.list (eVar 0)) (eIsi Ty.list (eVar 1)))) (tB' (eBin dNe (eIsi Ty.tuple (eVar 0)) (eIsi Ty.tuple (eVar 1)))) ρ C = some (false, C) := by
        rcases hd with rfl | rfl <;> simp [ρ, eIsi, isTy, qb]
      have l1 : eBin dEq (eB dLen (aCons (eVar 0) aNil)) (eB dLen (aCons (eVar 1) aNil)) ρ C = some (.dat (.bl true), C) := by
        rcases hd with rfl | rfl <;> simp [ρ, sees, dLen, lenD, qi]
      rw [t1, bnd_s, if_pos rfl, s_seq, s_if, t2, bnd_s, if_neg Bool.false_ne_true, s_nil, bnd_s]
      dsimp only
      have r1 : eAndV (eBin dEq (eB dLen (aCons (eVar 0) aNil)) (eB dLen (aCons (eVar 1) aNil))) (eB dAll (aCons (eFr (nLc (iZp (aCons (eVar 0) (aCons (eVar 1) aNil))) (bSeq 2 (bCons (bName 2) (bCons (bName 3) bNil))) tYes' (eCall 2 (M_Lsame (n + 1)) (aCons (eVar 2) (aCons (eVar 3) aNil))) [2, 3])) aNil)) ρ C = some (.dat (.bl true), C) := by
        unfold eAndV
        rw [l1, bnd_s]
        exact fin2
      rw [s_ret, r1, bnd_s, bnd_s]
      simp [fin]
    cases d with
    | non => exact same_sc _ (.inl rfl)
    | bl b => exact same_sc _ (.inr (.inl ⟨b, rfl⟩))
    | int i => exact same_sc _ (.inr (.inr (.inl ⟨i, rfl⟩)))
    | str x => exact same_sc _ (.inr (.inr (.inr ⟨x, rfl, h'⟩)))
    | tup xs =>
      have h1 : (decide (xs.length ≤ 1000) && szDs n xs) = true := by unfold szD at h; exact h
      have h2 : okDs n xs = true := by unfold okD at h'; exact h'
      rw [Bool.and_eq_true, szDs_all] at h1
      rw [okDs_all] at h2
      exact seq xs ⟨of_decide_eq_true h1.1, fun d hd => ⟨h1.2 d hd, h2 d hd⟩⟩ (.inr rfl)
    | lst xs =>
      have h1 : (decide (xs.length ≤ 1000) && szDs n xs) = true := by unfold szD at h; exact h
      have h2 : okDs n xs = true := by unfold okD at h'; exact h'
      rw [Bool.and_eq_true, szDs_all] at h1
      rw [okDs_all] at h2
      exact seq xs ⟨of_decide_eq_true h1.1, fun d hd => ⟨h1.2 d hd, h2 d hd⟩⟩ (.inl rfl)
    | _ => simp [szD] at h
end DX

namespace DX
open PySem PySem.Spec L2

/-! ### products -/
def prodC : List (List Str) → List (List Str)
  | [] => [[]]
  | c :: cs => c.flatMap fun x => (prodC cs).map (x :: ·)
theorem ext1_cons (x : Str) (rows : List (List Str)) (c : List Str) : ext1 (rows.map (x :: ·)) c = (ext1 rows c).map (x :: ·) := by
  unfold ext1
  induction rows with
  | nil => rfl
  | cons r rs ih =>
    rw [List.map_cons, List.flatMap_cons, ih, List.flatMap_cons, List.map_append]
    congr 1
    rw [List.map_map]
    rfl
theorem ext1_app (a b : List (List Str)) (c : List Str) : ext1 (a ++ b) c = ext1 a c ++ ext1 b c := by
  unfold ext1
  rw [List.flatMap_append]
theorem ext1_flat (c : List Str) (P : List (List Str)) (d : List Str) : ext1 (c.flatMap fun x => P.map (x :: ·)) d = c.flatMap fun x => (ext1 P d).map (x :: ·) := by
  induction c with
  | nil => rfl
  | cons x r ih => rw [List.flatMap_cons, ext1_app, ih, ext1_cons, List.flatMap_cons]
theorem prodC_snoc : ∀ (cs : List (List Str)) (d : List Str), prodC (cs ++ [d]) = ext1 (prodC cs) d
  | [], d => by
    show (d.flatMap fun x => ([[]] : List (List Str)).map (x :: ·)) = ext1 [[]] d
    unfold ext1
    induction d with
    | nil => rfl
    | cons x r ih =>
      rw [List.flatMap_cons, ih]
      simp
  | c :: cs, d => by
    show (c.flatMap fun x => (prodC (cs ++ [d])).map (x :: ·)) = ext1 (c.flatMap fun x => (prodC cs).map (x :: ·)) d
    rw [prodC_snoc cs d, ext1_flat]
theorem prod_eq (cs : List (List Str)) : prodS cs = prodC cs := by
  have go : ∀ (n : Nat) (cs : List (List Str)), cs.length = n → prodS cs = prodC cs := by
    intro n
    induction n with
    | zero => intro cs h; rw [List.length_eq_zero_iff.mp h]; rfl
    | succ n ih =>
      intro cs h
      have hne : cs ≠ [] := fun z => by rw [z] at h; cases h
      rw [← List.dropLast_concat_getLast hne]
      have e : prodS (cs.dropLast ++ [cs.getLast hne]) = ext1 (prodS cs.dropLast) (cs.getLast hne) := by
        unfold prodS
        rw [List.foldl_append]
        rfl
      rw [e, prodC_snoc, ih _ (by rw [List.length_dropLast, h]; rfl)]
  exact go _ cs rfl
/-- each place has what is asked of it -/
def sat : List (Str → Bool) → List Str → Bool
  | p :: ps, x :: s => p x && sat ps s
  | _, _ => true
theorem filter_prod : ∀ (ps : List (Str → Bool)) (cs : List (List Str)), ps.length = cs.length → (prodC cs).filter (sat ps) = prodC (ps.zipWith (fun p c => c.filter p) cs)
  | [], [], _ => rfl
  | [], _ :: _, h => by simp at h
  | _ :: _, [], h => by simp at h
  | p :: ps, c :: cs, h => by
    have ih := filter_prod ps cs (by simpa using h)
    show (c.flatMap fun x => (prodC cs).map (x :: ·)).filter (sat (p :: ps)) = (c.filter p).flatMap fun x => (prodC (ps.zipWith (fun p c => c.filter p) cs)).map (x :: ·)
    rw [← ih]
    have one : ∀ (x : Str) (P : List (List Str)), (P.map (x :: ·)).filter (sat (p :: ps)) = if p x = true then (P.filter (sat ps)).map (x :: ·) else [] := by
      intro x P
      induction P with
      | nil => simp
      | cons r rs ih2 =>
        rw [List.map_cons, List.filter_cons, ih2, List.filter_cons]
        show (if (p x && sat ps r) = true then _ else _) = _
        cases hp : p x <;> cases hr : sat ps r <;> simp
    clear h
    induction c with
    | nil => rfl
    | cons x r ih2 =>
      rw [List.flatMap_cons, List.filter_append, ih2, one, List.filter_cons]
      by_cases hp : p x = true
      · rw [if_pos hp, if_pos hp, List.flatMap_cons]
      · rw [if_neg hp, if_neg hp, List.nil_append]
theorem mem_prod : ∀ {cs : List (List Str)} {s : List Str}, s ∈ prodC cs ↔ s.length = cs.length ∧ ∀ (i : Nat) (x : Str) (c : List Str), s[i]? = some x → cs[i]? = some c → x ∈ c
  | [], s => by
    constructor
    · intro h
      have : s = [] := by simpa [prodC] using h
      subst this
      exact ⟨rfl, fun i x c h => by simp at h⟩
    · intro h
      have : s = [] := List.length_eq_zero_iff.mp h.1
      simp [prodC, this]
  | c :: cs, s => by
    unfold prodC
    rw [List.mem_flatMap]
    constructor
    · rintro ⟨x, hx, hs⟩
      obtain ⟨t, ht, rfl⟩ := List.mem_map.mp hs
      obtain ⟨h1, h2⟩ := mem_prod.mp ht
      refine ⟨by simp [h1], fun i y d hy hd => ?_⟩
      cases i with
      | zero => simp at hy hd; subst hy; subst hd; exact hx
      | succ i => exact h2 i y d (by simpa using hy) (by simpa using hd)
    · rintro ⟨h1, h2⟩
      cases s with
      | nil => simp at h1
      | cons x t =>
        refine ⟨x, h2 0 x c rfl rfl, List.mem_map.mpr ⟨t, mem_prod.mpr ⟨by simpa using h1, fun i y d hy hd => h2 (i + 1) y d (by simpa using hy) (by simpa using hd)⟩, rfl⟩⟩

def hardK (rs : List Row) : D := .tup (rs.map encRow)
def softRow (r : Row) : D := .lst [.str r.nm, .lst (r.sup.map D.str), .bl r.bare]
def softK (rs : List Row) : D := .lst (rs.map softRow)
theorem isK_hard (rs : List Row) : IsK (hardK rs) rs (rs.map encRow) := by
  refine ⟨rfl, by simp, fun i r h => ⟨encRow r, _, by rw [List.getElem?_map, h]; rfl, .inl rfl, .inl rfl⟩⟩
theorem isK_soft (rs : List Row) : IsK (softK rs) rs (rs.map softRow) := by
  refine ⟨rfl, by simp, fun i r h => ⟨softRow r, _, by rw [List.getElem?_map, h]; rfl, .inr rfl, .inr rfl⟩⟩
theorem soft_strs (l : List Str) : softs (l.map D.str) = l.map D.str := by
  rw [softs_map, List.map_map]
  refine List.map_congr_left fun x _ => ?_
  simp [soft]
theorem soft_row (r : Row) : soft (encRow r) = softRow r := by
  simp [encRow, softRow, soft, softs, soft_strs]
theorem soft_hard (rs : List Row) : soft (hardK rs) = softK rs := by
  show soft (.tup (rs.map encRow)) = _
  simp only [soft, softs_map, List.map_map, softK]
  congr 1
  exact List.map_congr_left fun r _ => soft_row r
theorem sz_kinds {rs : List Row} (h8 : rs.length ≤ 8) (hs : ∀ r ∈ rs, r.sup.length ≤ 8) (n : Nat) : szD (n + 3) (hardK rs) = true := by
  show (decide ((rs.map encRow).length ≤ 1000) && szDs (n + 2) (rs.map encRow)) = true
  rw [Bool.and_eq_true, szDs_all, decide_eq_true_iff, List.length_map]
  refine ⟨by omega, fun d hd => ?_⟩
  obtain ⟨r, hr, rfl⟩ := List.mem_map.mp hd
  have l := hs r hr
  have q : szDs n (r.sup.map D.str) = true := by
    rw [szDs_all]
    intro d hd
    obtain ⟨u, _, rfl⟩ := List.mem_map.mp hd
    cases n <;> rfl
  simp [encRow, szD, szDs, q]
  omega
theorem g1 {β : Type} {a : Sv} {o : Option β} : gd ([a].length = 1) o = o := gd_t rfl
theorem g2 {β : Type} {a b : Sv} {o : Option β} : gd ([a, b].length = 2) o = o := gd_t rfl
theorem g3 {β : Type} {a b c : Sv} {o : Option β} : gd ([a, b, c].length = 3) o = o := gd_t rfl
theorem g4 {β : Type} {a b c d : Sv} {o : Option β} : gd ([a, b, c, d].length = 4) o = o := gd_t rfl
mutual
theorem eqv_self : ∀ (n : Nat) (d : D), okD n d = true → PyData.eqv (toPy d) (toPy d) = true
  | _, .non, _ => by simp [toPy, PyData.eqv]
  | _, .bl b, _ => by simp [toPy, PyData.eqv]
  | _, .int _, _ => by simp [toPy, PyData.eqv]
  | _, .str x, _ => by simp [toPy, PyData.eqv]
  | n + 1, .tup xs, h => by
    have q := eqvs_self n xs (by unfold okD at h; exact h)
    simp [toPy, PyData.eqv, q]
  | n + 1, .lst xs, h => by
    have q := eqvs_self n xs (by unfold okD at h; exact h)
    simp [toPy, PyData.eqv, q]
  | 0, .tup _, h => by simp [okD] at h
  | 0, .lst _, h => by simp [okD] at h
  | _, .dK _, h => by simp [okD] at h
  | _, .dT _, h => by simp [okD] at h
  | _, .ins _ _, h => by simp [okD] at h
  | _, .scr _, h => by simp [okD] at h
  | _, .kt _, h => by simp [okD] at h
  | _, .lk _, h => by simp [okD] at h
theorem eqvs_self : ∀ (n : Nat) (ds : List D), okDs n ds = true → PyData.eqvAll (toPyL ds) (toPyL ds) = true
  | _, [], _ => by simp [toPyL, PyData.eqvAll]
  | n, d :: ds, h => by
    unfold okDs at h
    rw [Bool.and_eq_true] at h
    simp [toPyL, PyData.eqvAll, eqv_self n d h.1, eqvs_self n ds h.2]
end
theorem eq_self {n : Nat} {d : D} (h : okD n d = true) (hn : n ≤ 63) : dEq d d = some (.bl true) := by
  have s := shp_of h hn
  have e : eqvD d d = true := eqv_self n d h
  unfold dEq
  rw [gd_t ⟨s, s⟩, e]
theorem ok_soft {rs : List Row} (k : KOk rs) : okD 3 (softK rs) = true := by
  show okDs 2 (rs.map softRow) = true
  rw [okDs_all]
  intro d hd
  obtain ⟨r, hr, rfl⟩ := List.mem_map.mp hd
  obtain ⟨j, hj⟩ := List.mem_iff_getElem?.mp hr
  have g := k.good j r hj
  have m : ∀ u ∈ names (rs.take j), u ∈ names rs := fun u hu => by
    obtain ⟨q, hq, e⟩ := List.mem_map.mp hu
    exact List.mem_map.mpr ⟨q, List.mem_of_mem_take hq, e⟩
  have n1 : PyData.strOk r.nm = true := strok_pool _ (k.sub _ (List.mem_map.mpr ⟨r, hr, rfl⟩))
  have n2 : okDs 0 (r.sup.map D.str) = true := by
    rw [okDs_all]
    intro d hd
    obtain ⟨u, hu, rfl⟩ := List.mem_map.mp hd
    show PyData.strOk u = true
    exact strok_pool _ (k.sub _ (m u (g.1 u hu)))
  simp [softRow, okD, okDs, n1, n2]
theorem ok_bls {zs : List D} (h : ∀ d ∈ zs, ∃ b, d = .bl b) {n : Nat} : okD (n + 1) (.lst zs) = true := by
  show okDs n zs = true
  rw [okDs_all]
  intro d hd
  obtain ⟨b, rfl⟩ := h d hd
  cases n <;> rfl
theorem sz_bls {zs : List D} (h : ∀ d ∈ zs, ∃ b, d = .bl b) (hl : zs.length ≤ 1000) {n : Nat} : szD (n + 1) (.lst zs) = true := by
  show (decide (zs.length ≤ 1000) && szDs n zs) = true
  rw [Bool.and_eq_true, szDs_all, decide_eq_true_iff]
  refine ⟨hl, fun d hd => ?_⟩
  obtain ⟨b, rfl⟩ := h d hd
  cases n <;> rfl
theorem cut_loG {α : Type} (ns : List α) (n : Nat) : cutD ns none (some (n : Int)) = ns.take n := by
  unfold cutD
  rw [HT.sIx_none, HT.sIx_nat, List.drop_zero, Nat.sub_zero]
  rw [List.take_eq_take_iff]
  omega
def SHs (rs : List Row) (p : Nat) : List (List Str) := prodS (List.replicate p (asc rs))
theorem sh_len {rs : List Row} (h8 : rs.length ≤ 8) {p : Nat} (hp : p ≤ 3) : (SHs rs p).length ≤ 512 := by
  unfold SHs
  rw [prod_len, asc_len]
  calc rs.length ^ p ≤ 8 ^ p := Nat.pow_le_pow_left h8 p
    _ ≤ 8 ^ 3 := Nat.pow_le_pow_right (by omega) hp
    _ = 512 := by decide
theorem sh_pos {rs : List Row} (h1 : 1 ≤ rs.length) {p : Nat} : 1 ≤ (SHs rs p).length := by
  unfold SHs
  rw [prod_len, asc_len]
  exact Nat.one_le_pow _ _ h1
theorem sh_shp {rs : List Row} {p : Nat} {s : List Str} (h : s ∈ SHs rs p) : Shp rs p s := by
  unfold SHs at h
  rw [prod_eq, mem_prod, List.length_replicate] at h
  refine ⟨h.1, fun x hx => ?_⟩
  obtain ⟨i, hi⟩ := List.mem_iff_getElem?.mp hx
  have hl : i < p := by
    have := (List.getElem?_eq_some_iff.mp hi).1
    omega
  have q := h.2 i x (asc rs) hi (by rw [List.getElem?_replicate, if_pos hl])
  exact (sortStr_perm (names rs)).mem_iff.mp q
theorem sz_S {s : List Str} (h : s.length ≤ 1000) (n : Nat) : szD (n + 1) (encS s) = true := by
  show (decide ((s.map D.str).length ≤ 1000) && szDs n (s.map D.str)) = true
  rw [Bool.and_eq_true, szDs_all, decide_eq_true_iff, List.length_map]
  refine ⟨h, fun d hd => ?_⟩
  obtain ⟨u, _, rfl⟩ := List.mem_map.mp hd
  cases n <;> rfl
theorem sz_Ss {rows : List (List Str)} (h : rows.length ≤ 1000) (hr : ∀ r ∈ rows, r.length ≤ 1000) (n : Nat) : szD (n + 2) (encSs rows) = true := by
  show (decide ((rows.map encS).length ≤ 1000) && szDs (n + 1) (rows.map encS)) = true
  rw [Bool.and_eq_true, szDs_all, decide_eq_true_iff, List.length_map]
  refine ⟨h, fun d hd => ?_⟩
  obtain ⟨u, hu, rfl⟩ := List.mem_map.mp hd
  exact sz_S (hr u hu) n
theorem eq_int (i j : Int) : dEq (.int i) (.int j) = some (.bl (decide (i = j))) := by
  have s : ∀ i : Int, shp (.int i) = true := fun i => shp_of (n := 1) rfl (by omega)
  unfold dEq
  rw [gd_t ⟨s i, s j⟩]
  have e : eqvD (.int i) (.int j) = decide (i = j) := by
    simp [eqvD, toPy, PyData.eqv]
    rw [Bool.eq_iff_iff]
    simp
  rw [e]
theorem sups_len {rs : List Row} (k : KOk rs) (h8 : rs.length ≤ 8) : ∀ r ∈ rs, r.sup.length ≤ 8 := fun r hr => by
  obtain ⟨j, hj⟩ := List.mem_iff_getElem?.mp hr
  have g := k.good j r hj
  have q := nodup_sub g.2 g.1
  have : (names (rs.take j)).length ≤ rs.length := by
    simp [names]
    omega
  omega
end DX

namespace DX
open PySem PySem.Spec L2
theorem bools_gen {α : Type} (l : List α) (g : α → Bool) : dBools (l.map fun x => .bl (g x)) = some (l.map g) := by
  induction l with
  | nil => rfl
  | cons x r ih => show bn1 (dBools (r.map fun x => .bl (g x))) _ = _; rw [ih]; rfl
theorem any_gen {α : Type} (l : List α) (g : α → Bool) : dAny [.lst (l.map fun x => .bl (g x))] = some (.bl (l.any g)) := by
  show bn1 (dBools _) _ = _
  rw [bools_gen, bn1_s, List.any_map]
  rfl
theorem all_gen {α : Type} (l : List α) (g : α → Bool) : dAll [.lst (l.map fun x => .bl (g x))] = some (.bl (l.all g)) := by
  show bn1 (dBools _) _ = _
  rw [bools_gen, bn1_s, List.all_map]
  rfl
end DX

namespace DX
open PySem PySem.Spec L2
theorem sorted_d2 {xs : List Str} (h : xs.length < 64) : dSort2 [.lst (xs.map D.str)] = some (.lst ((sortStr xs).map D.str)) := by
  rw [sort2_lst, txts_map]
  exact gd_t h
/-! ### the law's shapes, a list that changes -/
def hEnv (K : D) (p : Nat) (o2 o3 o4 o5 : Option Sv) : Env := [some (.dat K), some (.dat (.int p)), o2, o3, o4, o5, none, none]
abbrev shCol : SE := eFr (nLc (iSq (eFr (nB dSort2 (aCons (eFr (nLc (iSq (eVar 0)) (bName 7) tYes' (eBin dIx (eVar 7) (eC (.int 0))) [7])) aNil)))) (bName 6) tYes' (eBin dAdd (eVar 5) (eTup (aCons (eVar 6) aNil))) [6])
theorem shCol_ok {rs : List Row} {K : D} {items : List D} {C : Store} (h8 : rs.length ≤ 8) (hK : IsK K rs items) {p : Nat} {o2 o3 o4 : Option Sv} {r : List Str} (hr : r.length ≤ 3) :
    shCol (hEnv K p o2 o3 o4 (some (.dat (encS r)))) C = some (.dat (.lst (((asc rs).map fun m => r ++ [m]).map encS)), C) := by
  have hn : (names rs).length = rs.length := by simp [names]
  let ρ := hEnv K p o2 o3 o4 (some (.dat (encS r)))
  have hz : items.length ≤ sizeLine := by rw [hK.len]; exact small_line (by omega)
  have e1 : nLc (iSq (eVar 0)) (bName 7) tYes' (eBin dIx (eVar 7) (eC (.int 0))) [7] ρ C = some (.lst ((names rs).map D.str), C) := by
    have q : iSq (eVar 0) ρ C = some (⟨items, []⟩, C) := by
      show bn1 (itemsOf K) _ = _
      rw [hK.its]
      rfl
    have q2 : compL [] (bName 7) tYes' (eBin dIx (eVar 7) (eC (.int 0))) (wipeE ρ [7]) items C = some (items.map hd0, C) := by
      refine comp_map rfl fun d hd => ⟨_, rfl, ?_⟩
      simp [ρ, hEnv, wipeE, hK.ix0 hd]
    unfold nLc
    rw [q, bnd_s, gd_t hz, q2, bnd_s, hK.hds]
  have e2 : eFr (nB dSort2 (aCons (eFr (nLc (iSq (eVar 0)) (bName 7) tYes' (eBin dIx (eVar 7) (eC (.int 0))) [7])) aNil)) ρ C = some (.dat (.lst ((asc rs).map D.str)), C) := by
    rw [e_fr, e_nb, e_cons, e_fr, e1, bnd_s, gd_t (show nolk (D.lst _) = true from rfl), bnd_s, e_nil, bnd_s, bnd_s]
    show bnd (bn1 (dSort2 [.lst ((names rs).map D.str)]) _) _ = _
    rw [sorted_d2 (by omega), bn1_s, bnd_s, gd_t (show nolk (D.lst _) = true from rfl)]
    rfl
  have e3 : iSq (eFr (nB dSort2 (aCons (eFr (nLc (iSq (eVar 0)) (bName 7) tYes' (eBin dIx (eVar 7) (eC (.int 0))) [7])) aNil))) ρ C = some (⟨(asc rs).map D.str, []⟩, C) := by
    rw [iSq_eq, e2, bnd_s]
    rfl
  have e4 : compL [] (bName 6) tYes' (eBin dAdd (eVar 5) (eTup (aCons (eVar 6) aNil))) (wipeE ρ [6]) ((asc rs).map D.str) C = some (((asc rs).map fun m => r ++ [m]).map encS, C) := by
    have q : ((asc rs).map fun m => r ++ [m]).map encS = ((asc rs).map D.str).map fun m => .tup (r.map D.str ++ [m]) := by
      rw [List.map_map, List.map_map]
      refine List.map_congr_left fun m _ => ?_
      simp [encS]
    rw [q]
    refine comp_map rfl fun m hm => ⟨_, rfl, ?_⟩
    obtain ⟨s, hs, rfl⟩ := List.mem_map.mp hm
    have hz : (r.map D.str).length + [D.str s].length ≤ sizeLine := Nat.le_trans (by simp; omega : (r.map D.str).length + [D.str s].length ≤ 1000) (small_line (Nat.le_refl _))
    have a1 : dAdd (.tup (r.map D.str)) (.tup [.str s]) = some (.tup (r.map D.str ++ [.str s])) := by
      have q0 : dAdd (.tup (r.map D.str)) (.tup [.str s]) = gd ((r.map D.str).length + [D.str s].length ≤ sizeLine) (some (.tup (r.map D.str ++ [.str s]))) := rfl
      rw [q0, gd_t hz]
    simp [ρ, hEnv, wipeE, dats, gd, encS, a1]
  have hz2 : ((asc rs).map D.str).length ≤ sizeLine := by
    rw [List.length_map, asc_len]
    exact small_line (by omega)
  have e5 : nLc (iSq (eFr (nB dSort2 (aCons (eFr (nLc (iSq (eVar 0)) (bName 7) tYes' (eBin dIx (eVar 7) (eC (.int 0))) [7])) aNil)))) (bName 6) tYes' (eBin dAdd (eVar 5) (eTup (aCons (eVar 6) aNil))) [6] ρ C = some (.lst (((asc rs).map fun m => r ++ [m]).map encS), C) := by
    rw [nLc_eq, e3, bnd_s, gd_t hz2, e4, bnd_s]
  unfold shCol
  rw [e_fr, e5, bnd_s, gd_t (show nolk (D.lst _) = true from rfl)]
structure InnH (C C' : Store) (n2 n4 : Nat) (rows done : List (List Str)) : Prop where
  a : C'[n2]? = some (encSs rows)
  b : C'[n4]? = some (encSs done)
  pre : C'.take C.length = C
  g2 : C.length ≤ n2
  g4 : C.length ≤ n4
theorem Lsh_in {rs : List Row} {K : D} {items : List D} {C C1 : Store} (h8 : rs.length ≤ 8) (hK : IsK K rs items) {p n2 n4 : Nat} {o3 o5 : Option Sv} {rows : List (List Str)} (hr : ∀ r ∈ rows, r.length ≤ 3) (hl : rows.length ≤ 64) (h0 : InnH C C1 n2 n4 rows []) :
    ∃ o5' n4' C2, forL [(n2, encSs rows)] (bName 5) (sNew 4 (nBin dCat (eVar 4) shCol)) (rows.map encS) (hEnv K p (some (.cel n2)) o3 (some (.cel n4)) o5) C1 = some (.nx (hEnv K p (some (.cel n2)) o3 (some (.cel n4')) o5'), C2) ∧ InnH C C2 n2 n4' rows (ext1 rows (asc rs)) := by
  let I : Nat → Env → Store → Prop := fun j ρ C' => ∃ o n4', ρ = hEnv K p (some (.cel n2)) o3 (some (.cel n4')) o ∧ InnH C C' n2 n4' rows (ext1 (rows.take j) (asc rs))
  have st : ∀ j ρ C', I j ρ C' → stays C' [(n2, encSs rows)] = true := fun j ρ C' ⟨_, _, _, h⟩ => by
    simp [stays, h.a, sameD_rfl]
  obtain ⟨ρ', C', e, o, n4', hρ, hC⟩ := for_inv (cels := [(n2, encSs rows)]) (b := bName 5) (body := sNew 4 (nBin dCat (eVar 4) shCol)) (items := rows.map encS) (I := I) (ρ := hEnv K p (some (.cel n2)) o3 (some (.cel n4)) o5) (C := C1) ⟨o5, n4, rfl, h0⟩ (by
    intro j d ρ C' hd hI
    have st1 := st j ρ C' hI
    obtain ⟨o, n4', hρ, hC⟩ := hI
    subst hρ
    rw [List.getElem?_map] at hd
    cases hx : rows[j]? with
    | none => rw [hx] at hd; cases hd
    | some r =>
      rw [hx] at hd
      cases hd
      have hj : j < rows.length := (List.getElem?_eq_some_iff.mp hx).1
      have q := shCol_ok (C := C') h8 hK (p := p) (o2 := some (.cel n2)) (o3 := o3) (o4 := some (.cel n4')) (hr r (List.mem_of_getElem? hx))
      have l1 : (ext1 (rows.take j) (asc rs)).length ≤ 512 := by
        rw [ext1_len, asc_len, List.length_take]
        exact Nat.le_trans (Nat.mul_le_mul (Nat.le_trans (Nat.min_le_right _ _) hl : min j rows.length ≤ 64) h8) (by decide : 64 * 8 ≤ 512)
      have hz : ((ext1 (rows.take j) (asc rs)).map encS).length + (((asc rs).map fun m => r ++ [m]).map encS).length ≤ sizeLine := by
        refine Nat.le_trans ?_ (small_line (Nat.le_refl 1000))
        rw [List.length_map, List.length_map, List.length_map, asc_len]
        omega
      have a1 : dCat (encSs (ext1 (rows.take j) (asc rs))) (.lst (((asc rs).map fun m => r ++ [m]).map encS)) = some (encSs (ext1 (rows.take (j + 1)) (asc rs))) := by
        have q0 : dCat (encSs (ext1 (rows.take j) (asc rs))) (.lst (((asc rs).map fun m => r ++ [m]).map encS)) = gd (((ext1 (rows.take j) (asc rs)).map encS).length + (((asc rs).map fun m => r ++ [m]).map encS).length ≤ sizeLine) (some (.lst ((ext1 (rows.take j) (asc rs)).map encS ++ ((asc rs).map fun m => r ++ [m]).map encS))) := rfl
        rw [q0, gd_t hz, ← List.map_append, List.take_add_one, hx]
        unfold ext1 encSs
        rw [List.flatMap_append]
        simp
      have lt2 : n2 < C'.length := (List.getElem?_eq_some_iff.mp hC.a).1
      have lt4 : n4' < C'.length := (List.getElem?_eq_some_iff.mp hC.b).1
      refine ⟨st1, hEnv K p (some (.cel n2)) o3 (some (.cel n4')) (some (.dat (encS r))), hEnv K p (some (.cel n2)) o3 (some (.cel C'.length)) (some (.dat (encS r))), C' ++ [encSs (ext1 (rows.take (j + 1)) (asc rs))], rfl, ?_, _, _, rfl, ?_⟩
      · have v4 : eVar 4 (hEnv K p (some (.cel n2)) o3 (some (.cel n4')) (some (.dat (encS r)))) C' = some (.cel n4', C') := rfl
        have u : unlk (encSs (ext1 (rows.take j) (asc rs))) = encSs (ext1 (rows.take j) (asc rs)) := rfl
        rw [s_new, e_nbin, v4, bnd_s, q, bnd_s, see_c, hC.b, Option.map_some, bn1_s, see_d, bn1_s, u, a1, bn1_s, bnd_s]
        rfl
      · have lc : C.length ≤ C'.length := by have := hC.g2; omega
        refine ⟨by rw [List.getElem?_append_left lt2]; exact hC.a, List.getElem?_concat_length, by rw [List.take_append_of_le_length lc]; exact hC.pre, hC.g2, lc⟩) (fun ρ C' h => st _ ρ C' h)
  rw [List.length_map, List.take_length] at hC
  subst hρ
  exact ⟨o, n4', C', e, hC⟩
theorem Lshapes_new {rs : List Row} {K : D} {items : List D} {C : Store} (h8 : rs.length ≤ 8) (hK : IsK K rs items) {p : Nat} (hp : p ≤ 3) :
    M_Lshapes [.dat K, .dat (.int p)] C = some (encSs (SHs rs p), C) := by
  have hlen : (rngD 0 (p : Int)).length = p := by simp [rngD]
  let body : SS := sSeq (sNew 4 (nLst aNil)) (sSeq (sFor (iSq (eVar 2)) (bName 5) (sNew 4 (nBin dCat (eVar 4) shCol))) (sSet 2 (eVar 4)))
  let I : Nat → Env → Store → Prop := fun i ρ C' => ∃ n2 o3 o4 o5, ρ = hEnv K p (some (.cel n2)) o3 o4 o5 ∧ C'[n2]? = some (encSs (SHs rs i)) ∧ C'.take C.length = C ∧ C.length ≤ n2
  obtain ⟨ρ', C', e, n2, o3, o4, o5, hρ, h1, h2, h3⟩ := for_inv (cels := []) (b := bName 3) (body := body) (items := rngD 0 (p : Int)) (I := I) (ρ := hEnv K p (some (.cel C.length)) none none none) (C := C ++ [encSs [[]]]) ⟨C.length, none, none, none, rfl, List.getElem?_concat_length, by simp, Nat.le_refl _⟩ (by
    intro i d ρ C' hd ⟨n2, o3, o4, o5, hρ, h1, h2, h3⟩
    subst hρ
    have hi : i < p := by
      have := (List.getElem?_eq_some_iff.mp hd).1
      omega
    have lt2 : n2 < C'.length := (List.getElem?_eq_some_iff.mp h1).1
    have lc : C.length ≤ C'.length := by omega
    have hrow : ∀ r ∈ SHs rs i, r.length ≤ 3 := fun r hr => by
      have := prod_row i (asc rs) r hr
      omega
    have hl : (SHs rs i).length ≤ 64 := by
      show (prodS (List.replicate i (asc rs))).length ≤ 64
      rw [prod_len, asc_len]
      calc rs.length ^ i ≤ 8 ^ i := Nat.pow_le_pow_left h8 i
        _ ≤ 8 ^ 2 := Nat.pow_le_pow_right (by omega) (by omega)
        _ = 64 := by decide
    have h0 : InnH C (C' ++ [.lst []]) n2 C'.length (SHs rs i) [] := ⟨by rw [List.getElem?_append_left lt2]; exact h1, List.getElem?_concat_length, by rw [List.take_append_of_le_length lc]; exact h2, h3, lc⟩
    obtain ⟨o5', n4', C2, e2, hI⟩ := Lsh_in (p := p) (o3 := some (.dat d)) (o5 := o5) h8 hK hrow hl h0
    refine ⟨rfl, hEnv K p (some (.cel n2)) (some (.dat d)) o4 o5, hEnv K p (some (.cel n4')) (some (.dat d)) (some (.cel n4')) o5', C2, rfl, ?_, n4', _, _, _, rfl, ?_, hI.pre, hI.g4⟩
    · have a1 : sNew 4 (nLst aNil) (hEnv K p (some (.cel n2)) (some (.dat d)) o4 o5) C' = some (.nx (hEnv K p (some (.cel n2)) (some (.dat d)) (some (.cel C'.length)) o5), C' ++ [.lst []]) := rfl
      have f1 : sFor (iSq (eVar 2)) (bName 5) (sNew 4 (nBin dCat (eVar 4) shCol)) (hEnv K p (some (.cel n2)) (some (.dat d)) (some (.cel C'.length)) o5) (C' ++ [.lst []]) = some (.nx (hEnv K p (some (.cel n2)) (some (.dat d)) (some (.cel n4')) o5'), C2) := by
        have i1 : iSq (eVar 2) (hEnv K p (some (.cel n2)) (some (.dat d)) (some (.cel C'.length)) o5) (C' ++ [.lst []]) = some (⟨(SHs rs i).map encS, [(n2, encSs (SHs rs i))]⟩, C' ++ [.lst []]) := by
          have v2 : eVar 2 (hEnv K p (some (.cel n2)) (some (.dat d)) (some (.cel C'.length)) o5) (C' ++ [.lst []]) = some (.cel n2, C' ++ [.lst []]) := rfl
          have ko : keepOf (C' ++ [.lst []]) (.cel n2) = [(n2, encSs (SHs rs i))] := by
            unfold keepOf
            dsimp only
            rw [h0.a]
          rw [iSq_eq, v2, bnd_s, see_c, h0.a, Option.map_some, bn1_s, ko]
          rfl
        unfold sFor
        rw [i1, bnd_s]
        exact e2
      show sSeq _ _ _ _ = _
      rw [s_seq, a1, bnd_s]
      dsimp only
      rw [s_seq, f1, bnd_s]
      rfl
    · rw [hI.b]
      show some (encSs (ext1 (prodS (List.replicate i (asc rs))) (asc rs))) = some (encSs (prodS (List.replicate (i + 1) (asc rs))))
      rw [prod_succ]) (fun _ _ _ => rfl)
  rw [hlen] at h1
  subst hρ
  show gd ([Sv.dat K, Sv.dat (.int (p : Int))].length = 2) _ = _
  rw [g2]
  unfold m_Lshapes
  have e0 : startE 8 [Sv.dat K, Sv.dat (.int (p : Int))] = hEnv K p none none none none := rfl
  have a1 : sNew 2 (nLst (aCons (eTup aNil) aNil)) (hEnv K p none none none none) C = some (.nx (hEnv K p (some (.cel C.length)) none none none), C ++ [encSs [[]]]) := rfl
  have f1 : sFor (iRg1 (aCons (eVar 1) aNil)) (bName 3) body (hEnv K p (some (.cel C.length)) none none none) (C ++ [encSs [[]]]) = some (.nx (hEnv K p (some (.cel n2)) o3 o4 o5), C') := by
    have i1 : iRg1 (aCons (eVar 1) aNil) (hEnv K p (some (.cel C.length)) none none none) (C ++ [encSs [[]]]) = some (⟨rngD 0 (p : Int), []⟩, C ++ [encSs [[]]]) := by
      have v1 : eVar 1 (hEnv K p (some (.cel C.length)) none none none) (C ++ [encSs [[]]]) = some (.dat (.int p), C ++ [encSs [[]]]) := rfl
      unfold iRg1
      rw [e_cons, v1, bnd_s, e_nil, bnd_s, bnd_s]
      exact gd_t (smI_nat (by omega))
    unfold sFor
    rw [i1, bnd_s]
    exact e
  rw [e0, s_seq, a1, bnd_s]
  dsimp only
  rw [s_seq]
  show bnd (bnd (sFor (iRg1 (aCons (eVar 1) aNil)) (bName 3) body (hEnv K p (some (.cel C.length)) none none none) (C ++ [encSs [[]]])) _) _ = _
  rw [f1, bnd_s]
  dsimp only
  have v2 : eVar 2 (hEnv K p (some (.cel n2)) o3 o4 o5) C' = some (.cel n2, C') := rfl
  rw [s_ret, v2, bnd_s, bnd_s]
  show gd (C.length ≤ n2) (bn1 (C'[n2]?) fun d => some (d, C'.take C.length)) = _
  rw [gd_t h3, h1, bn1_s, h2]
end DX

namespace DX
open PySem PySem.Spec L2
/-! ### drawn methods -/
abbrev Meth := Str × List Str
def encM (p : Meth) : D := .tup [.str p.1, encS p.2]
def mpool : List Str := ["p", "q", "r", "s", "a", "mm", "t"]
theorem mpool_nd : mpool.Nodup := by decide +kernel
theorem strok_mpool : ∀ u ∈ mpool, PyData.strOk u = true := by decide +kernel
theorem ne_nilSs {rows : List (List Str)} (h : ∀ r ∈ rows, ∀ x ∈ r, PyData.strOk x = true) : dNe (encSs rows) (.lst []) = some (.bl (!decide (rows = []))) := by
  have s1 : shp (encSs rows) = true := shp_of (n := 2) (ok_Ss h) (by omega)
  have s2 : shp (.lst []) = true := shp_of (n := 1) rfl (by omega)
  have s3 : eqvD (encSs rows) (.lst []) = decide (rows = []) := by
    cases rows with
    | nil => rfl
    | cons x r => simp [encSs, eqvD, toPy, toPyL, PyData.eqv, PyData.eqvAll]
  unfold dNe
  rw [gd_t ⟨s1, s2⟩, s3]
/-- a drawn item is taken out of a list that changes -/
theorem popAt_ok {k n s : Nat} {B : D} {R : Store} {xs : List D} {ρ : Env} (hB : Box k B) (hk : k < 100000) (hx : xs ≠ []) (hx2 : xs.length < 1000) (r0 : ρ[0]? = some (some (.cel 0))) (rs : ρ[s]? = some (some (.cel (n + 1)))) (hc : R[n]? = some (.lst xs)) :
    ∃ (r : Nat) (B' : D) (h : r < xs.length), ePopAt (eVar s) (eCall 2 M_Ltake (aCons (eVar 0) (aCons (eB dLen (aCons (eVar s) aNil)) aNil))) ρ (B :: R) = some (.dat xs[r], B' :: R.set n (.lst (xs.eraseIdx r))) ∧ Box (k + 1) B' := by
  obtain ⟨r, B', e, h1, h2⟩ := hB.take (C := R) (n := xs.length) hk (by have := List.length_pos_iff.mpr hx; omega) (by omega)
  refine ⟨r, B', h1, ?_, h2⟩
  have v0 : ∀ C, eVar 0 ρ C = some (.cel 0, C) := fun C => by rw [e_var, r0]; rfl
  have vs : ∀ C, eVar s ρ C = some (.cel (n + 1), C) := fun C => by rw [e_var, rs]; rfl
  have ei : ixN xs.length (r : Int) = some r := by
    unfold ixN
    rw [if_pos (by omega), if_pos (by omega)]
    simp
  have l1 : ∀ b : D, lstAt (b :: R) (.cel (n + 1)) = some (n + 1, xs) := fun b => by
    unfold lstAt
    dsimp only
    rw [List.getElem?_cons_succ, hc]
  have ln : eB dLen (aCons (eVar s) aNil) ρ (B :: R) = some (.dat (.int (xs.length : Nat)), B :: R) := by
    rw [e_b, e_cons, vs, bnd_s, e_nil, bnd_s, bnd_s]
    show bn1 (bn1 (see (B :: R) (.cel (n + 1))) fun d => bn1 (sees (B :: R) []) fun ds => some (d :: ds)) _ = _
    rw [see_c, List.getElem?_cons_succ, hc]
    rfl
  have ec : eCall 2 M_Ltake (aCons (eVar 0) (aCons (eB dLen (aCons (eVar s) aNil)) aNil)) ρ (B :: R) = some (.dat (.int r), B' :: R) := by
    rw [e_call, e_cons, v0, bnd_s, e_cons, ln, bnd_s, e_nil, bnd_s, bnd_s, bnd_s, g2]
    exact e
  unfold ePopAt
  rw [vs, bnd_s, l1, bn1_s, ec, bnd_s, l1, bn1_s]
  show bn1 (ixN xs.length (r : Int)) _ = _
  rw [ei, bn1_s, List.getElem?_eq_getElem h1, bn1_s]
  rfl
def mtEnv (K : D) (n many : Nat) (o4 o8 : Option Sv) : Env := [some (.cel 0), some (.dat K), some (.dat (.int n)), some (.dat (.int many)), o4, some (.cel 1), some (.cel 2), some (.cel 3), o8]
def mtC (B : D) (labels : List Str) (shapes : List (List Str)) (found : List Meth) : Store := [B, .lst (labels.map D.str), encSs shapes, .lst (found.map encM)]
abbrev mtBody : SS := sIf (tB' (eBin dNe (eVar 6) (eFr (nLst aNil)))) (sSeq (sSet 8 (ePopAt (eVar 6) (eCall 2 M_Ltake (aCons (eVar 0) (aCons (eB dLen (aCons (eVar 6) aNil)) aNil)))))
    (sDrop (eApp (eVar 7) (eTup (aCons (ePopAt (eVar 5) (eCall 2 M_Ltake (aCons (eVar 0) (aCons (eB dLen (aCons (eVar 5) aNil)) aNil)))) (aCons (eVar 8) aNil)))))) sNil
structure MIn (rs : List Row) (n i : Nat) (labels : List Str) (shapes : List (List Str)) (found : List Meth) : Prop where
  ls : (found.map (·.1) ++ labels).Perm mpool
  ss : (found.map (·.2) ++ shapes).Perm (SHs rs n)
  len : found.length ≤ i
theorem mt_in {rs : List Row} {K : D} {n many i k : Nat} {B : D} {labels : List Str} {shapes : List (List Str)} {found : List Meth} {o4 o8 : Option Sv} (kk : KOk rs) (h8 : rs.length ≤ 8) (hn : n ≤ 3) (hB : Box k B) (hk : k + 2 < 100000) (hi : i < 7) (h : MIn rs n i labels shapes found) :
    ∃ o8' B' labels' shapes' found', mtBody (mtEnv K n many o4 o8) (mtC B labels shapes found) = some (.nx (mtEnv K n many o4 o8'), mtC B' labels' shapes' found') ∧ Box (k + 2) B' ∧ MIn rs n (i + 1) labels' shapes' found' := by
  have okS : ∀ r ∈ shapes, Shp rs n r := fun r hr => sh_shp (h.ss.mem_iff.mp (List.mem_append_right _ hr))
  have ok : ∀ r ∈ shapes, ∀ x ∈ r, PyData.strOk x = true := fun r hr => (okS r hr).ok kk
  let ρ0 := mtEnv K n many o4 o8
  let C0 := mtC B labels shapes found
  have t1 : tB' (eBin dNe (eVar 6) (eFr (nLst aNil))) ρ0 C0 = some (!decide (shapes = []), C0) := by
    have v6 : eVar 6 ρ0 C0 = some (.cel 2, C0) := rfl
    have n1 : eFr (nLst aNil) ρ0 C0 = some (.dat (.lst []), C0) := rfl
    have sc : see C0 (.cel 2) = some (encSs shapes) := rfl
    rw [t_b, e_bin, v6, bnd_s, n1, bnd_s, sc, bn1_s, see_d, bn1_s, ne_nilSs ok, bn1_s, bnd_s]
  by_cases hs : shapes = []
  · refine ⟨o8, B, labels, shapes, found, ?_, hB.mono (by omega), ⟨h.ls, h.ss, by have := h.len; omega⟩⟩
    show sIf _ _ _ ρ0 C0 = _
    rw [s_if, t1, bnd_s, decide_eq_true hs]
    rfl
  · have sl : shapes.length ≤ 512 := by
      have q := h.ss.length_eq
      rw [List.length_append] at q
      have := sh_len h8 hn
      omega
    have ll : labels.length = 7 - found.length := by
      have q := h.ls.length_eq
      rw [List.length_append, List.length_map] at q
      have : mpool.length = 7 := by decide +kernel
      omega
    have hlen := h.len
    obtain ⟨r, B1, hr, e1, b1⟩ := popAt_ok (s := 6) (n := 1) (R := [.lst (labels.map D.str), encSs shapes, .lst (found.map encM)]) (xs := shapes.map encS) (ρ := ρ0) hB (by omega) (by simpa using hs) (by rw [List.length_map]; omega) rfl rfl rfl
    rw [List.length_map] at hr
    have hl0 : labels.map D.str ≠ [] := by
      intro z
      rw [List.map_eq_nil_iff] at z
      rw [z] at ll
      simp at ll
      omega
    let ρ1 := mtEnv K n many o4 (some (.dat (encS shapes[r])))
    obtain ⟨q, B2, hq, e2, b2⟩ := popAt_ok (s := 5) (n := 0) (R := [.lst (labels.map D.str), encSs (shapes.eraseIdx r), .lst (found.map encM)]) (xs := labels.map D.str) (ρ := ρ1) b1 (by omega) hl0 (by rw [List.length_map]; omega) rfl rfl rfl
    rw [List.length_map] at hq
    refine ⟨some (.dat (encS shapes[r])), B2, labels.eraseIdx q, shapes.eraseIdx r, found ++ [(labels[q], shapes[r])], ?_, b2, ?_⟩
    · have a1 : sSet 8 (ePopAt (eVar 6) (eCall 2 M_Ltake (aCons (eVar 0) (aCons (eB dLen (aCons (eVar 6) aNil)) aNil)))) ρ0 C0 = some (.nx ρ1, mtC B1 labels (shapes.eraseIdx r) found) := by
        have e1' : ePopAt (eVar 6) (eCall 2 M_Ltake (aCons (eVar 0) (aCons (eB dLen (aCons (eVar 6) aNil)) aNil))) ρ0 C0 = some (.dat (encS shapes[r]), mtC B1 labels (shapes.eraseIdx r) found) := by
          refine Eq.trans e1 ?_
          rw [List.getElem_map, map_erase]
          rfl
        rw [s_set, e1', bnd_s]
        rfl
      let C1 := mtC B1 labels (shapes.eraseIdx r) found
      let C2 := mtC B2 (labels.eraseIdx q) (shapes.eraseIdx r) found
      have e2' : ePopAt (eVar 5) (eCall 2 M_Ltake (aCons (eVar 0) (aCons (eB dLen (aCons (eVar 5) aNil)) aNil))) ρ1 C1 = some (.dat (.str labels[q]), C2) := by
        refine Eq.trans e2 ?_
        rw [List.getElem_map, map_erase]
        rfl
      have tu : eTup (aCons (ePopAt (eVar 5) (eCall 2 M_Ltake (aCons (eVar 0) (aCons (eB dLen (aCons (eVar 5) aNil)) aNil)))) (aCons (eVar 8) aNil)) ρ1 C1 = some (.dat (encM (labels[q], shapes[r])), C2) := by
        have v8 : eVar 8 ρ1 C2 = some (.dat (encS shapes[r]), C2) := rfl
        rw [e_tup, e_cons, e2', bnd_s, e_cons, v8, bnd_s, e_nil, bnd_s, bnd_s, bnd_s]
        rfl
      have v7 : eVar 7 ρ1 C1 = some (.cel 3, C1) := rfl
      have k1 : lstAt C1 (.cel 3) = some (3, found.map encM) := rfl
      have k2 : lstAt C2 (.cel 3) = some (3, found.map encM) := rfl
      have hz : (found.map encM).length < sizeLine := Nat.lt_of_lt_of_le (by rw [List.length_map]; omega : (found.map encM).length < 1000) (small_line (Nat.le_refl _))
      have a2 : sDrop (eApp (eVar 7) (eTup (aCons (ePopAt (eVar 5) (eCall 2 M_Ltake (aCons (eVar 0) (aCons (eB dLen (aCons (eVar 5) aNil)) aNil)))) (aCons (eVar 8) aNil)))) ρ1 C1 = some (.nx ρ1, mtC B2 (labels.eraseIdx q) (shapes.eraseIdx r) (found ++ [(labels[q], shapes[r])])) := by
        have e3 : eApp (eVar 7) (eTup (aCons (ePopAt (eVar 5) (eCall 2 M_Ltake (aCons (eVar 0) (aCons (eB dLen (aCons (eVar 5) aNil)) aNil)))) (aCons (eVar 8) aNil))) ρ1 C1 = some (.dat .non, mtC B2 (labels.eraseIdx q) (shapes.eraseIdx r) (found ++ [(labels[q], shapes[r])])) := by
          unfold eApp
          rw [v7, bnd_s, k1, bn1_s, tu, bnd_s, k2, bn1_s, dat_d, bn1_s, gd_t hz]
          show some (Sv.dat D.non, C2.set 3 (.lst (found.map encM ++ [encM (labels[q], shapes[r])]))) = _
          unfold mtC
          rw [List.map_append]
          rfl
        rw [s_drop, e3, bnd_s]
      show sIf _ _ _ ρ0 C0 = _
      rw [s_if, t1, bnd_s, decide_eq_false hs]
      show sSeq _ _ ρ0 C0 = _
      rw [s_seq, a1, bnd_s]
      exact a2
    · refine ⟨?_, ?_, by rw [List.length_append]; simp; omega⟩
      · have z : ((found ++ [(labels[q], shapes[r])]).map (·.1) ++ labels.eraseIdx q) = found.map (·.1) ++ (labels[q] :: labels.eraseIdx q) := by simp
        rw [z]
        exact ((perm_erase hq).append_left _).trans h.ls
      · have z : ((found ++ [(labels[q], shapes[r])]).map (·.2) ++ shapes.eraseIdx r) = found.map (·.2) ++ (shapes[r] :: shapes.eraseIdx r) := by simp
        rw [z]
        exact ((perm_erase hr).append_left _).trans h.ss
/-- what a drawn list of methods is -/
structure MOk (rs : List Row) (n : Nat) (L : List Meth) : Prop where
  nd : (L.map (·.1)).Nodup
  sub : ∀ p ∈ L, p.1 ∈ mpool
  shp : ∀ p ∈ L, Shp rs n p.2
  snd : (L.map (·.2)).Nodup
theorem prod_nd {c : List Str} (h : c.Nodup) : ∀ n, (prodS (List.replicate n c)).Nodup := by
  intro n
  rw [prod_eq]
  induction n with
  | zero => simp [prodC]
  | succ n ih =>
    rw [List.replicate_succ]
    show (c.flatMap fun x => (prodC (List.replicate n c)).map (x :: ·)).Nodup
    unfold List.Nodup
    rw [List.pairwise_flatMap]
    refine ⟨fun x _ => ?_, ?_⟩
    · exact List.pairwise_map.mpr (ih.imp fun {a b} hab q => hab (List.cons.inj q).2)
    · refine h.imp fun {x y} hxy a ha b hb q => ?_
      obtain ⟨a', _, rfl⟩ := List.mem_map.mp ha
      obtain ⟨b', _, rfl⟩ := List.mem_map.mp hb
      exact hxy (List.cons.inj q).1
theorem sh_nd {rs : List Row} (k : KOk rs) (n : Nat) : (SHs rs n).Nodup := prod_nd ((sortStr_perm (names rs)).nodup_iff.mpr k.nd) n
theorem rowD_m {rs : List Row} {n : Nat} (kk : KOk rs) {p : Meth} (h1 : p.1 ∈ mpool) (h2 : Shp rs n p.2) : rowD (encM p) = true := by
  unfold rowD
  rw [Bool.and_eq_true]
  refine ⟨?_, ?_⟩
  · show (txts (p.2.map D.str)).isSome = true
    rw [txts_map]
    rfl
  · have q : okD 1 (encS p.2) = true := ok_S (h2.ok kk)
    simp [encM, okD, okDs, strok_mpool _ h1, q]
theorem sort_m {rs : List Row} {n : Nat} (kk : KOk rs) {F : List Meth} (hl : F.length ≤ 1000) (h1 : ∀ p ∈ F, p.1 ∈ mpool) (h2 : ∀ p ∈ F, Shp rs n p.2) : ∃ L : List Meth, L.Perm F ∧ dSort2 [.lst (F.map encM)] = some (.lst (L.map encM)) ∧ (F ≠ [] → L = F.mergeSort (PySem.W.dataLe false fun p => toPy (encM p))) := by
  cases F with
  | nil =>
    refine ⟨[], List.Perm.refl _, ?_, fun z => absurd rfl z⟩
    have q := sorted_d2 (xs := []) (by simp)
    have e : sortStr [] = [] := by
      unfold sortStr
      simp
    rw [e] at q
    exact q
  | cons p F =>
    refine ⟨(p :: F).mergeSort (PySem.W.dataLe false fun p => toPy (encM p)), List.mergeSort_perm _ _, ?_, fun _ => rfl⟩
    have ht : txts ((p :: F).map encM) = none := rfl
    rw [sort2_lst, ht]
    have hall : ((p :: F).map encM).all rowD = true := by
      rw [List.all_eq_true]
      intro d hd
      obtain ⟨q, hq, rfl⟩ := List.mem_map.mp hd
      exact rowD_m kk (h1 q hq) (h2 q hq)
    have hlen : ((p :: F).map encM).length ≤ 1000 := by rw [List.length_map]; exact hl
    show gd _ _ = _
    rw [gd_t ⟨hall, hlen⟩]
    congr 2
    exact (List.map_mergeSort (r := PySem.W.dataLe false fun p => toPy (encM p)) (s := PySem.W.dataLe false toPy) (f := encM) (l := p :: F) (fun a _ b _ => rfl)).symm
theorem methods_ok {rs : List Row} {K : D} {items : List D} {k n many : Nat} {B : D} (kk : KOk rs) (h8 : rs.length ≤ 8) (hK : IsK K rs items) (hn : n ≤ 3) (hB : Box k B) (hk : k + 2 * many < 90000) (hm : many ≤ 7) :
    ∃ (L : List Meth) (B' : D), M_Lmethods [.cel 0, .dat K, .dat (.int n), .dat (.int many)] [B] = some (.dat (.tup (L.map encM)), [B']) ∧ Box (k + 2 * many) B' ∧ MOk rs n L ∧ L.length ≤ many := by
  have hlen : (rngD 0 (many : Int)).length = many := by simp [rngD]
  let I : Nat → Env → Store → Prop := fun i ρ C => ∃ o4 o8 B' labels shapes found, ρ = mtEnv K n many o4 o8 ∧ C = mtC B' labels shapes found ∧ Box (k + 2 * i) B' ∧ MIn rs n i labels shapes found
  obtain ⟨ρ', C', e, o4, o8, B', labels, shapes, found, hρ, hC, hB', hM⟩ := for_inv (cels := []) (b := bName 4) (body := mtBody) (items := rngD 0 (many : Int)) (I := I) (ρ := mtEnv K n many none none) (C := mtC B mpool (SHs rs n) []) ⟨none, none, B, mpool, SHs rs n, [], rfl, rfl, hB, ⟨List.Perm.refl _, List.Perm.refl _, Nat.le_refl _⟩⟩ (by
    intro i d ρ C hd ⟨o4, o8, B', labels, shapes, found, hρ, hC, hB', hM⟩
    subst hρ
    subst hC
    have hi : i < many := by
      have := (List.getElem?_eq_some_iff.mp hd).1
      omega
    obtain ⟨o8', B2, l2, s2, f2, e, b2, m2⟩ := mt_in (K := K) (many := many) (o4 := some (.dat d)) (o8 := o8) kk h8 hn hB' (by omega) (by omega) hM
    exact ⟨rfl, mtEnv K n many (some (.dat d)) o8, _, _, rfl, e, _, _, _, _, _, _, rfl, rfl, b2.mono (by omega), m2⟩) (fun _ _ _ => rfl)
  rw [hlen] at hB' hM
  subst hρ
  subst hC
  have p1 : ∀ p ∈ found, p.1 ∈ mpool := fun p hp => hM.ls.mem_iff.mp (List.mem_append_left _ (List.mem_map.mpr ⟨p, hp, rfl⟩))
  have p2 : ∀ p ∈ found, p.2 ∈ SHs rs n := fun p hp => hM.ss.mem_iff.mp (List.mem_append_left _ (List.mem_map.mpr ⟨p, hp, rfl⟩))
  have hfl := hM.len
  obtain ⟨L, hL, hs, _⟩ := sort_m kk (by omega) p1 (fun p hp => sh_shp (p2 p hp))
  refine ⟨L, B', ?_, hB', ⟨?_, fun p hp => p1 p (hL.mem_iff.mp hp), fun p hp => sh_shp (p2 p (hL.mem_iff.mp hp)), ?_⟩, by rw [hL.length_eq]; exact hfl⟩
  · unfold M_Lmethods
    rw [runE_eq (by rfl)]
    unfold m_Lmethods
    let ρ0 : Env := [some (.cel 0), some (.dat K), some (.dat (.int n)), some (.dat (.int many)), none, none, none, none, none]
    have e0 : startE 9 [Sv.cel 0, Sv.dat K, Sv.dat (.int (n : Int)), Sv.dat (.int (many : Int))] = ρ0 := rfl
    have a1 : sMul [5, 6, 7] (aNew (nLst (aCons (eC (.str "p")) (aCons (eC (.str "q")) (aCons (eC (.str "r")) (aCons (eC (.str "s")) (aCons (eC (.str "a")) (aCons (eC (.str "mm")) (aCons (eC (.str "t")) aNil)))))))) (aNew (nCall 2 M_Lshapes (aCons (eVar 1) (aCons (eVar 2) aNil))) (aNew (nLst aNil) aNil))) ρ0 [B] = some (.nx (mtEnv K n many none none), mtC B mpool (SHs rs n) []) := by
      let C1 : Store := [B, .lst (mpool.map D.str)]
      have n1 : nLst (aCons (eC (.str "p")) (aCons (eC (.str "q")) (aCons (eC (.str "r")) (aCons (eC (.str "s")) (aCons (eC (.str "a")) (aCons (eC (.str "mm")) (aCons (eC (.str "t")) aNil))))))) ρ0 [B] = some (.lst (mpool.map D.str), [B]) := rfl
      have n2 : nCall 2 M_Lshapes (aCons (eVar 1) (aCons (eVar 2) aNil)) ρ0 C1 = some (encSs (SHs rs n), C1) := by
        have v1 : eVar 1 ρ0 C1 = some (.dat K, C1) := rfl
        have v2 : eVar 2 ρ0 C1 = some (.dat (.int n), C1) := rfl
        unfold nCall
        rw [e_cons, v1, bnd_s, e_cons, v2, bnd_s, e_nil, bnd_s, bnd_s, bnd_s, g2]
        exact Lshapes_new h8 hK hn
      have q : aNew (nLst (aCons (eC (.str "p")) (aCons (eC (.str "q")) (aCons (eC (.str "r")) (aCons (eC (.str "s")) (aCons (eC (.str "a")) (aCons (eC (.str "mm")) (aCons (eC (.str "t")) aNil)))))))) (aNew (nCall 2 M_Lshapes (aCons (eVar 1) (aCons (eVar 2) aNil))) (aNew (nLst aNil) aNil)) ρ0 [B] = some ([.cel 1, .cel 2, .cel 3], mtC B mpool (SHs rs n) []) := by
        show bnd (nLst _ ρ0 [B]) _ = _
        rw [n1, bnd_s]
        show bnd (bnd (nCall 2 M_Lshapes (aCons (eVar 1) (aCons (eVar 2) aNil)) ρ0 C1) _) _ = _
        rw [n2, bnd_s]
        rfl
      unfold sMul
      rw [q, bnd_s]
      rfl
    have f1 : sFor (iRg1 (aCons (eVar 3) aNil)) (bName 4) mtBody (mtEnv K n many none none) (mtC B mpool (SHs rs n) []) = some (.nx (mtEnv K n many o4 o8), mtC B' labels shapes found) := by
      have i1 : iRg1 (aCons (eVar 3) aNil) (mtEnv K n many none none) (mtC B mpool (SHs rs n) []) = some (⟨rngD 0 (many : Int), []⟩, mtC B mpool (SHs rs n) []) := by
        have v3 : eVar 3 (mtEnv K n many none none) (mtC B mpool (SHs rs n) []) = some (.dat (.int many), mtC B mpool (SHs rs n) []) := rfl
        unfold iRg1
        rw [e_cons, v3, bnd_s, e_nil, bnd_s, bnd_s]
        exact gd_t (smI_nat (by omega))
      unfold sFor
      rw [i1, bnd_s]
      exact e
    rw [e0, s_seq, a1, bnd_s]
    dsimp only
    rw [s_seq]
    show bnd (bnd (sFor (iRg1 (aCons (eVar 3) aNil)) (bName 4) mtBody (mtEnv K n many none none) (mtC B mpool (SHs rs n) [])) _) _ = _
    rw [f1, bnd_s]
    dsimp only
    let ρ2 := mtEnv K n many o4 o8
    let C2 := mtC B' labels shapes found
    have v7 : eVar 7 ρ2 C2 = some (.cel 3, C2) := rfl
    have s1 : eFr (nB dSort2 (aCons (eVar 7) aNil)) ρ2 C2 = some (.dat (.lst (L.map encM)), C2) := by
      rw [e_fr, e_nb, e_cons, v7, bnd_s, e_nil, bnd_s, bnd_s]
      show bnd (bn1 (dSort2 [.lst (found.map encM)]) _) _ = _
      rw [hs]
      rfl
    show bnd (sRet (eB dTuple (aCons (eFr (nB dSort2 (aCons (eVar 7) aNil))) aNil)) ρ2 C2) _ = _
    rw [s_ret, e_b, e_cons, s1, bnd_s, e_nil, bnd_s, bnd_s]
    rfl
  · have q := hM.ls.nodup_iff.mpr mpool_nd
    exact (hL.map _).nodup_iff.mpr (List.nodup_append.mp q).1
  · have q := hM.ss.nodup_iff.mpr (sh_nd kk n)
    exact (hL.map _).nodup_iff.mpr (List.nodup_append.mp q).1
end DX

namespace DX
open PySem PySem.Spec L2
def chEnv (cols : List (List Str)) (n : Nat) (o2 : Option Sv) : Env := [some (.dat (.lst (cols.map encL))), some (.cel n), o2, none, none]
theorem choice_ok {cols : List (List Str)} {C : Store} (h3 : cols.length ≤ 3) (h8 : ∀ c ∈ cols, c.length ≤ 8) : M_every_choice [.dat (.lst (cols.map encL))] C = some (.lst ((prodS cols).map encS), C) := by
  let I : Nat → Env → Store → Prop := fun i ρ C' => ∃ (o2 : Option Sv) (Z : Store) (rows : List (List Str)), ρ = chEnv cols (C.length + i) o2 ∧ C' = C ++ Z ++ [.lst (rows.map encS)] ∧ Z.length = i ∧ rows = prodS (cols.take i) ∧ rows.length ≤ 8 ^ i ∧ ∀ r ∈ rows, r.length = i
  have step : ∀ i d ρ C', (cols.map encL)[i]? = some d → I i ρ C' → stays C' [] = true ∧ ∃ ρ1 ρ2 C1, bName 2 d ρ = some ρ1 ∧
      sNew 1 (nLc2 (iSq (eVar 1)) (bName 3) tYes' (iSq (eVar 2)) (bName 4) tYes' (eBin dAdd (eVar 3) (eTup (aCons (eVar 4) aNil))) [3, 4] [4]) ρ1 C' = some (.nx ρ2, C1) ∧ I (i + 1) ρ2 C1 := by
    intro i d ρ C' hd ⟨o2, Z, rows, hρ, hC, hZ, hrows, hl, hr⟩
    subst hρ
    rw [List.getElem?_map] at hd
    cases hc : cols[i]? with
    | none => rw [hc] at hd; cases hd
    | some col =>
      rw [hc] at hd
      cases hd
      have hi : i < cols.length := (List.getElem?_eq_some_iff.mp hc).1
      have c8 := h8 col (List.mem_of_getElem? hc)
      have hn : C.length + i = (C ++ Z).length := by simp [hZ]
      have g1 : C'[C.length + i]? = some (.lst (rows.map encS)) := by
        rw [hC, hn]
        exact List.getElem?_concat_length
      have z1 : i ≤ 2 := by omega
      have p8 : 8 ^ i ≤ 64 := Nat.le_trans (Nat.pow_le_pow_right (by decide) z1) (by decide)
      have ext8 : (ext1 rows col).length ≤ 8 ^ (i + 1) := by
        rw [ext1_len, Nat.pow_succ]
        exact Nat.mul_le_mul hl c8
      have ext512 : (ext1 rows col).length ≤ 512 := Nat.le_trans ext8 (by rw [Nat.pow_succ]; omega)
      let ρ1 := chEnv cols (C.length + i) (some (.dat (encL col)))
      have k1 : keepOf C' (.cel (C.length + i)) = [(C.length + i, .lst (rows.map encS))] := by simp [keepOf, g1]
      have e1 : iSq (eVar 1) ρ1 C' = some (⟨rows.map encS, [(C.length + i, .lst (rows.map encS))]⟩, C') := by
        have q : eVar 1 ρ1 C' = some (.cel (C.length + i), C') := rfl
        unfold iSq
        rw [q, bnd_s, see_c, g1, Option.map_some, bn1_s]
        show bn1 (itemsOf (.lst (rows.map encS))) _ = _
        show bn1 (some (rows.map encS)) _ = _
        rw [bn1_s, k1]
      have e2 : compL2 [(C.length + i, .lst (rows.map encS))] (bName 3) tYes' (iSq (eVar 2)) (bName 4) tYes' (eBin dAdd (eVar 3) (eTup (aCons (eVar 4) aNil))) [4] (wipeE ρ1 [3, 4]) (rows.map encS) C' = some ((ext1 rows col).map encS, C') := by
        rw [ext1_enc]
        refine comp2_map (by simp [stays, g1, sameD_rfl]) fun d hd => ?_
        obtain ⟨r, hr1, rfl⟩ := List.mem_map.mp hd
        have rl := hr r hr1
        refine ⟨_, ⟨col.map D.str, []⟩, rfl, rfl, ?_⟩
        refine comp_map rfl fun m hm => ?_
        obtain ⟨s, hs, rfl⟩ := List.mem_map.mp hm
        refine ⟨_, rfl, ?_⟩
        have hz : (r.map D.str).length + [D.str s].length ≤ sizeLine := Nat.le_trans (by simp; omega : (r.map D.str).length + [D.str s].length ≤ 1000) (small_line (Nat.le_refl _))
        have a1 : dAdd (.tup (r.map D.str)) (.tup [.str s]) = some (.tup (r.map D.str ++ [.str s])) := by
          show gd _ _ = _
          rw [gd_t hz]
        simp [ρ1, chEnv, wipeE, dats, gd, encS, a1]
      have e3 : nLc2 (iSq (eVar 1)) (bName 3) tYes' (iSq (eVar 2)) (bName 4) tYes' (eBin dAdd (eVar 3) (eTup (aCons (eVar 4) aNil))) [3, 4] [4] ρ1 C' = some (.lst ((ext1 rows col).map encS), C') := by
        unfold nLc2
        rw [e1, bnd_s, e2, bnd_s, gd_t]
        rw [List.length_map]
        exact small_line (by omega)
      have hlen : C'.length = C.length + (i + 1) := by
        rw [hC]
        simp [hZ]
        try omega
      refine ⟨rfl, ρ1, chEnv cols (C.length + (i + 1)) (some (.dat (encL col))), C' ++ [.lst ((ext1 rows col).map encS)], rfl, ?_, _, Z ++ [.lst (rows.map encS)], ext1 rows col, rfl, ?_, by simp [hZ], ?_, ext8, fun r hr2 => ?_⟩
      · rw [s_new, e3, bnd_s, hlen]
        rfl
      · rw [hC]
        simp
      · rw [List.take_add_one, hc]
        unfold prodS at hrows ⊢
        rw [List.foldl_append, ← hrows]
        rfl
      · unfold ext1 at hr2
        obtain ⟨r0, q1, q2⟩ := List.mem_flatMap.mp hr2
        obtain ⟨m, q3, rfl⟩ := List.mem_map.mp q2
        rw [List.length_append, hr r0 q1]
        rfl
  obtain ⟨ρ', C', e, o2, Z, rows, hρ, hC, hZ, hrows, _, _⟩ := for_inv (cels := []) (b := bName 2) (items := cols.map encL) (I := I) (ρ := chEnv cols C.length none) (C := C ++ [.lst [encS []]]) ⟨none, [], [[]], rfl, by simp, rfl, rfl, by simp, fun r h => by simp at h; simp [h]⟩ step (fun _ _ _ => rfl)
  rw [List.length_map] at hρ hZ hrows
  rw [List.take_length] at hrows
  subst hρ
  unfold M_every_choice
  show gd ([Sv.dat (.lst (cols.map encL))].length = 1) _ = _
  rw [gd_t (show [Sv.dat (.lst (cols.map encL))].length = 1 from rfl)]
  unfold m_every_choice
  have e0 : nLst (aCons (eTup aNil) aNil) (startE 5 [Sv.dat (.lst (cols.map encL))]) C = some (.lst [encS []], C) := by
    simp [dats, gd, encS]
  have e1 : (startE 5 [Sv.dat (.lst (cols.map encL))]).set 1 (some (.cel C.length)) = chEnv cols C.length none := rfl
  rw [s_seq, s_new, e0, bnd_s, bnd_s]
  dsimp only
  rw [e1, s_seq]
  have e2 : sFor (iSq (eVar 0)) (bName 2) (sNew 1 (nLc2 (iSq (eVar 1)) (bName 3) tYes' (iSq (eVar 2)) (bName 4) tYes' (eBin dAdd (eVar 3) (eTup (aCons (eVar 4) aNil))) [3, 4] [4])) (chEnv cols C.length none) (C ++ [.lst [encS []]]) = some (.nx (chEnv cols (C.length + cols.length) o2), C') := by
    have q : iSq (eVar 0) (chEnv cols C.length none) (C ++ [.lst [encS []]]) = some (⟨cols.map encL, []⟩, C ++ [.lst [encS []]]) := rfl
    unfold sFor
    rw [q, bnd_s]
    exact e
  rw [e2, bnd_s]
  dsimp only
  have e3 : sRet (eVar 1) (chEnv cols (C.length + cols.length) o2) C' = some (.rt (.cel (C.length + cols.length)), C') := rfl
  rw [e3, bnd_s]
  have g1 : C'[C.length + cols.length]? = some (.lst (rows.map encS)) := by
    have hn : C.length + cols.length = (C ++ Z).length := by simp [hZ]
    rw [hC, hn]
    exact List.getElem?_concat_length
  show gd (C.length ≤ C.length + cols.length) (bn1 (C'[C.length + cols.length]?) _) = _
  rw [gd_t (Nat.le_add_right _ _), g1, bn1_s, hrows, hC, List.append_assoc, List.take_left']
  rfl
theorem shapes_ok {rs : List Row} {K m : D} {items : List D} {C : Store} (h8 : rs.length ≤ 8) (hK : IsK K rs items) {p : Nat} (hp : p ≤ 3) {gen : D} (hg : gen = .tup [K, .int p, m] ∨ gen = .lst [K, .int p, m]) :
    M_shapes [.dat gen] C = some (.lst ((prodS (List.replicate p (asc rs))).map encS), C) := by
  have hn : (names rs).length = rs.length := by simp [names]
  let ρ1 : Env := [some (.dat gen), none, some (.dat K), some (.dat (.int p)), some (.dat m), none]
  let ρ2 : Env := [some (.dat gen), some (.dat (encL (asc rs))), some (.dat K), some (.dat (.int p)), some (.dat m), none]
  have e0 : sUnp (bSeq 3 (bCons (bName 2) (bCons (bName 3) (bCons (bName 4) bNil)))) (eVar 0) (startE 6 [.dat gen]) C = some (.nx ρ1, C) := by
    rcases hg with z | z <;> rw [z] <;> (simp only [ρ1, z]; rfl)
  have hz : items.length ≤ sizeLine := by rw [hK.len]; exact small_line (by omega)
  have e1 : nLc (iSq (eVar 2)) (bName 5) tYes' (eBin dIx (eVar 5) (eC (.int 0))) [5] ρ1 C = some (.lst ((names rs).map D.str), C) := by
    have q : iSq (eVar 2) ρ1 C = some (⟨items, []⟩, C) := by
      show bn1 (itemsOf K) _ = _
      rw [hK.its]
      rfl
    have q2 : compL [] (bName 5) tYes' (eBin dIx (eVar 5) (eC (.int 0))) (wipeE ρ1 [5]) items C = some (items.map hd0, C) := by
      refine comp_map rfl fun d hd => ⟨_, rfl, ?_⟩
      simp [ρ1, wipeE, hK.ix0 hd]
    unfold nLc
    rw [q, bnd_s, gd_t hz, q2, bnd_s, hK.hds]
  have e2 : sSet 1 (eFr (nB dSort2 (aCons (eFr (nLc (iSq (eVar 2)) (bName 5) tYes' (eBin dIx (eVar 5) (eC (.int 0))) [5])) aNil))) ρ1 C = some (.nx ρ2, C) := by
    rw [s_set, e_fr, e_nb, e_cons, e_fr, e1, bnd_s, gd_t (show nolk (D.lst _) = true from rfl), bnd_s, e_nil, bnd_s, bnd_s]
    show bnd (bnd (bn1 (dSort2 [.lst ((names rs).map D.str)]) _) _) _ = _
    rw [sorted_d2 (by omega), bn1_s, bnd_s, gd_t (show nolk (D.lst _) = true from rfl), bnd_s]
    rfl
  have e3 : eBin dMul (eFr (nLst (aCons (eVar 1) aNil))) (eVar 3) ρ2 C = some (.dat (.lst ((List.replicate p (asc rs)).map encL)), C) := by
    have q : dMul (.lst [encL (asc rs)]) (.int p) = some (.lst ((List.replicate p (asc rs)).map encL)) := by
      have hz2 : ((p : Int) ≤ 1000000 ∧ (-1000000 : Int) ≤ p ∧ [encL (asc rs)].length * (p : Int).toNat ≤ sizeLine) := ⟨by omega, by omega, by
        rw [Int.toNat_natCast]
        exact small_line (by simp; omega)⟩
      have q0 : dMul (.lst [encL (asc rs)]) (.int p) = gd ((p : Int) ≤ 1000000 ∧ (-1000000 : Int) ≤ p ∧ [encL (asc rs)].length * (p : Int).toNat ≤ sizeLine) (some (.lst (List.replicate (p : Int).toNat [encL (asc rs)]).flatten)) := rfl
      rw [q0, gd_t hz2, Int.toNat_natCast, flat_one, List.map_replicate]
    have q1 : eFr (nLst (aCons (eVar 1) aNil)) ρ2 C = some (.dat (.lst [encL (asc rs)]), C) := by
      simp [ρ2, dats, gd, nolk]
    have q2 : eVar 3 ρ2 C = some (.dat (.int p), C) := rfl
    rw [e_bin, q1, bnd_s, q2, bnd_s, see_d, bn1_s, see_d, bn1_s, q, bn1_s]
  have e4 : nCall 1 M_every_choice (aCons (eBin dMul (eFr (nLst (aCons (eVar 1) aNil))) (eVar 3)) aNil) ρ2 C = some (.lst ((prodS (List.replicate p (asc rs))).map encS), C) := by
    unfold nCall
    rw [e_cons, e3, bnd_s, e_nil, bnd_s, bnd_s]
    show gd ([Sv.dat (.lst ((List.replicate p (asc rs)).map encL))].length = 1) _ = _
    rw [gd_t (show [Sv.dat (.lst ((List.replicate p (asc rs)).map encL))].length = 1 from rfl)]
    exact choice_ok (by simpa using hp) fun c hc => by
      rw [(List.mem_replicate.mp hc).2, asc_len]
      exact h8
  unfold M_shapes
  show gd ([Sv.dat gen].length = 1) _ = _
  rw [gd_t (show [Sv.dat gen].length = 1 from rfl)]
  unfold m_shapes
  rw [s_seq, e0, bnd_s]
  dsimp only
  rw [s_seq, e2, bnd_s]
  dsimp only
  unfold sRetNew
  rw [e4, bnd_s, bnd_s]
  show gd (C.length ≤ C.length) (bn1 ((C ++ [_])[C.length]?) _) = _
  rw [gd_t (Nat.le_refl _), List.getElem?_concat_length, bn1_s, List.take_left']
  rfl
theorem zip_map (one other : List Str) : zipD (one.map D.str) (other.map D.str) = (one.zip other).map fun p => .tup [.str p.1, .str p.2] := by
  unfold zipD
  induction one generalizing other with
  | nil => simp
  | cons x r ih =>
    cases other with
    | nil => simp
    | cons y q => simp [ih q]
def Under (rs : List Row) (a b : List Str) : Prop := ∀ (k : Nat) (x y : Str), a[k]? = some x → b[k]? = some y → Up rs x y
noncomputable def und (rs : List Row) (a b : List Str) : Bool := @decide (Under rs a b) (Classical.propDecidable _)
theorem und_iff {rs : List Row} {a b : List Str} : und rs a b = true ↔ Under rs a b := by
  unfold und
  exact @decide_eq_true_iff _ (Classical.propDecidable _)

theorem all_zip (a b : List Str) (f : Str → Str → Bool) : (a.zip b).all (fun p => f p.1 p.2) = true ↔ ∀ (k : Nat) (x y : Str), a[k]? = some x → b[k]? = some y → f x y = true := by
  rw [List.all_eq_true]
  constructor
  · intro h k x y h1 h2
    refine h (x, y) (List.mem_of_getElem? (i := k) ?_)
    rw [List.getElem?_zip_eq_some]
    exact ⟨h1, h2⟩
  · intro h p hp
    obtain ⟨k, hk⟩ := List.mem_iff_getElem?.mp hp
    rw [List.getElem?_zip_eq_some] at hk
    exact h k p.1 p.2 hk.1 hk.2
theorem is_shape_ok {rs : List Row} {T : List (Str × List Str)} {C : Store} (k : KOk rs) (t : Tab rs rs.length T) {n : Nat} (hn : n ≤ 3) {a b : List Str} (ha : Shp rs n a) (hb : Shp rs n b) :
    M_is_shape_below [.dat (tabD T), .dat (encS a), .dat (encS b)] C = some (.dat (.bl (und rs a b)), C) := by
  let ρ0 : Env := [some (.dat (tabD T)), some (.dat (encS a)), some (.dat (encS b)), none, none]
  have i1 : iZp (aCons (eVar 1) (aCons (eVar 2) aNil)) ρ0 C = some (⟨(a.zip b).map fun p => .tup [.str p.1, .str p.2], []⟩, C) := by
    rw [← zip_map]
    rfl
  have lz : (a.zip b).length ≤ 3 := by rw [List.length_zip, ha.1, hb.1]; omega
  let fD : D → D := fun d => match d with | .tup [.str x, .str y] => .bl (upB rs x y) | _ => .non
  have c1 : compL [] (bSeq 2 (bCons (bName 3) (bCons (bName 4) bNil))) tYes' (eBin dIn (eVar 4) (eBin dIx (eVar 0) (eVar 3))) (wipeE ρ0 [3, 4]) ((a.zip b).map fun p => .tup [.str p.1, .str p.2]) C = some (((a.zip b).map fun p => D.tup [.str p.1, .str p.2]).map fD, C) := by
    refine comp_map rfl fun d hd => ?_
    obtain ⟨p, hp, rfl⟩ := List.mem_map.mp hd
    have m1 : p.1 ∈ names rs := ha.2 _ (List.of_mem_zip (show (p.1, p.2) ∈ a.zip b from hp)).1
    obtain ⟨us, u1, u2, u3⟩ := ix_tab (enc := encD) t (a := p.1) (by rw [List.take_length]; exact m1)
    refine ⟨_, rfl, ?_⟩
    let ρ1 : Env := [some (.dat (tabD T)), some (.dat (encS a)), some (.dat (encS b)), some (.dat (.str p.1)), some (.dat (.str p.2))]
    show eBin dIn (eVar 4) (eBin dIx (eVar 0) (eVar 3)) ρ1 C = some (.dat (.bl (upB rs p.1 p.2)), C)
    have v0 : eVar 0 ρ1 C = some (.dat (tabD T), C) := rfl
    have v3 : eVar 3 ρ1 C = some (.dat (.str p.1), C) := rfl
    have v4 : eVar 4 ρ1 C = some (.dat (.str p.2), C) := rfl
    have u3' : dIx (tabD T) (.str p.1) = some (encD us) := u3
    have z : decide (p.2 ∈ us) = upB rs p.1 p.2 := by rw [Bool.eq_iff_iff, decide_eq_true_iff, upB_iff, u1]
    rw [e_bin, v4, bnd_s, e_bin, v0, bnd_s, v3, bnd_s, see_d, bn1_s, see_d, bn1_s, u3', bn1_s, bnd_s, see_d, bn1_s, see_d, bn1_s, in_eK, bn1_s, z]
  have e1 : ((a.zip b).map fun p => D.tup [.str p.1, .str p.2]).map fD = (a.zip b).map fun p => D.bl (upB rs p.1 p.2) := by
    rw [List.map_map]
    rfl
  have e2 : ((a.zip b).all fun p => upB rs p.1 p.2) = und rs a b := by
    rw [Bool.eq_iff_iff, all_zip, und_iff]
    exact ⟨fun h q x y h1 h2 => upB_iff.mp (h q x y h1 h2), fun h q x y h1 h2 => upB_iff.mpr (h q x y h1 h2)⟩
  have n1 : eB dAll (aCons (eFr (nLc (iZp (aCons (eVar 1) (aCons (eVar 2) aNil))) (bSeq 2 (bCons (bName 3) (bCons (bName 4) bNil))) tYes' (eBin dIn (eVar 4) (eBin dIx (eVar 0) (eVar 3))) [3, 4])) aNil) ρ0 C = some (.dat (.bl (und rs a b)), C) := by
    rw [e_b, e_cons, e_fr, nLc_eq, i1, bnd_s, gd_t (by rw [List.length_map]; exact small_line (by omega)), c1, bnd_s, bnd_s, gd_t (show nolk (D.lst _) = true from rfl), bnd_s, e_nil, bnd_s, bnd_s, e1]
    show bn1 (dAll [.lst _]) _ = _
    rw [all_gen (a.zip b) (fun p => upB rs p.1 p.2), e2]
    rfl
  unfold M_is_shape_below
  rw [runE_eq (by rfl)]
  unfold m_is_shape_below
  have e0 : startE 5 [Sv.dat (tabD T), Sv.dat (encS a), Sv.dat (encS b)] = ρ0 := rfl
  rw [e0, s_ret, n1, bnd_s, bnd_s]
  simp [fin]
/-! ### the table of a generic -/
structure GOk (rs : List Row) (n : Nat) (L : List Meth) : Prop where
  nd : (L.map (·.1)).Nodup
  ok : ∀ p ∈ L, PyData.strOk p.1 = true
  shp : ∀ p ∈ L, Shp rs n p.2
  snd : (L.map (·.2)).Nodup
theorem MOk.g {rs : List Row} {n : Nat} {L : List Meth} (m : MOk rs n L) : GOk rs n L := ⟨m.nd, fun p hp => strok_mpool _ (m.sub p hp), m.shp, m.snd⟩
def genD (K : D) (n : Nat) (L : List Meth) : D := .tup [K, .int n, .tup (L.map encM)]
noncomputable def nearL (rs : List Row) (L : List Meth) (s : List Str) : List Str := (L.filter fun q => (!decide (q.2 = s)) && und rs q.2 s).map (·.1)
noncomputable def fitL (rs : List Row) (L : List Meth) (c : List Str) : List Str := (L.filter fun p => und rs c p.2).map (·.1)
noncomputable def nstM (rs : List Row) (L : List Meth) (c : List Str) : List Meth := L.filter fun p => und rs c p.2 && !((nearL rs L p.2).any fun l => decide (l ∈ fitL rs L c))
noncomputable def nstL (rs : List Row) (L : List Meth) (c : List Str) : List Str := (nstM rs L c).map (·.1)
noncomputable def nearD (rs : List Row) (L : List Meth) : D := .dK (L.map fun p => ((Sum.inr p.1 : Key), encL (nearL rs L p.2)))
noncomputable def tabO (rs : List Row) (K : D) (T : List (Str × List Str)) (L : List Meth) : D := .ins "Table" [("kinds", K), ("above", tabD T), ("methods", .lst (L.map encM)), ("nearer", nearD rs L)]
def fstD : D → D
  | .tup [x, _] => x
  | _ => .non
def sndS : D → List Str
  | .tup [_, s] => dec s
  | _ => []
theorem snd_enc (p : Meth) : sndS (encM p) = p.2 := dec_enc p.2
theorem filter_encM (f : List Str → Bool) (L : List Meth) : ((L.map encM).filter (fun d => f (sndS d))).map fstD = ((L.filter fun p => f p.2).map (·.1)).map D.str := by
  induction L with
  | nil => rfl
  | cons p L ih =>
    rw [List.map_cons, List.filter_cons, List.filter_cons, snd_enc]
    by_cases h : f p.2 = true
    · rw [if_pos h, if_pos h, List.map_cons, ih]
      rfl
    · rw [if_neg h, if_neg h, ih]
theorem und_e {rs : List Row} {T : List (Str × List Str)} {C : Store} {ρ : Env} {o a b : SE} {fs : List (Str × D)} {x : Sv} (k : KOk rs) (t : Tab rs rs.length T) {n : Nat} (hn : n ≤ 3) {s u : List Str} (hs : Shp rs n s) (hu : Shp rs n u)
    (ho : o ρ C = some (x, C)) (hx : see C x = some (.ins "Table" fs)) (hf : fs.lookup ("above" : Str) = some (tabD T)) (ha : a ρ C = some (.dat (encS s), C)) (hb : b ρ C = some (.dat (encS u), C)) :
    tTru (eCall 3 M_is_shape_below (aCons (eFld "Table" "above" o) (aCons a (aCons b aNil)))) ρ C = some (und rs s u, C) := by
  have f : eFld "Table" "above" o ρ C = some (.dat (tabD T), C) := by
    unfold eFld
    rw [ho, bnd_s, hx, bn1_s]
    show gd (("Table" : Str) = "Table") (bn1 (fs.lookup ("above" : Str)) fun z => some (Sv.dat z, C)) = _
    rw [gd_t rfl, hf, bn1_s]
  rw [t_tru, e_call, e_cons, f, bnd_s, e_cons, ha, bnd_s, e_cons, hb, bnd_s, e_nil, bnd_s, bnd_s, bnd_s, bnd_s, g3, is_shape_ok k t hn hs hu, bnd_s, see_d, bn1_s]
  rfl
theorem nearer_ok {rs : List Row} {T : List (Str × List Str)} {L : List Meth} {C : Store} {x : Sv} {fs : List (Str × D)} (k : KOk rs) (t : Tab rs rs.length T) {n : Nat} (hn : n ≤ 3) (go : GOk rs n L) (hl : L.length ≤ 60) {s : List Str} (hs : Shp rs n s)
    (hx : see C x = some (.ins "Table" fs)) (hf : fs.lookup ("above" : Str) = some (tabD T)) (hm : fs.lookup ("methods" : Str) = some (.lst (L.map encM))) :
    M_Table__nearer_than [x, .dat (encS s)] C = some (.dat (encL (nearL rs L s)), C) := by
  let ρ0 : Env := [some x, some (.dat (encS s)), none, none]
  have v0 : ∀ a b, eVar 0 [some x, some (.dat (encS s)), a, b] C = some (x, C) := fun _ _ => rfl
  have fm : eFld "Table" "methods" (eVar 0) ρ0 C = some (.dat (.lst (L.map encM)), C) := by
    unfold eFld
    rw [v0, bnd_s, hx, bn1_s]
    show gd (("Table" : Str) = "Table") (bn1 (fs.lookup ("methods" : Str)) fun z => some (Sv.dat z, C)) = _
    rw [gd_t rfl, hm, bn1_s]
  have i1 : iSq (eFld "Table" "methods" (eVar 0)) ρ0 C = some (⟨L.map encM, []⟩, C) := by
    rw [iSq_eq, fm, bnd_s]
    rfl
  have c1 : compL [] (bSeq 2 (bCons (bName 2) (bCons (bName 3) bNil))) (tAnd' (tB' (eBin dNe (eVar 3) (eVar 1))) (tTru (eCall 3 M_is_shape_below (aCons (eFld "Table" "above" (eVar 0)) (aCons (eVar 3) (aCons (eVar 1) aNil)))))) (eVar 2) (wipeE ρ0 [2, 3]) (L.map encM) C = some (((L.map encM).filter (fun d => (fun u => (!decide (u = s)) && und rs u s) (sndS d))).map fstD, C) := by
    refine comp_filter rfl fun d hd => ?_
    obtain ⟨p, hp, rfl⟩ := List.mem_map.mp hd
    have sp := go.shp p hp
    let ρ1 : Env := [some x, some (.dat (encS s)), some (.dat (.str p.1)), some (.dat (encS p.2))]
    refine ⟨ρ1, rfl, ?_, fun _ => rfl⟩
    have v1 : eVar 1 ρ1 C = some (.dat (encS s), C) := rfl
    have v3 : eVar 3 ρ1 C = some (.dat (encS p.2), C) := rfl
    have q1 : tB' (eBin dNe (eVar 3) (eVar 1)) ρ1 C = some (!decide (p.2 = s), C) := by
      rw [t_b, e_bin, v3, bnd_s, v1, bnd_s, see_d, bn1_s, see_d, bn1_s, ne_S (sp.ok k) (hs.ok k), bn1_s, bnd_s]
    have q2 := und_e (C := C) (ρ := ρ1) (o := eVar 0) (a := eVar 3) (b := eVar 1) k t hn sp hs rfl hx hf rfl rfl
    rw [snd_enc, t_and, q1, bnd_s]
    show _ = some ((!decide (p.2 = s)) && und rs p.2 s, C)
    by_cases z : p.2 = s
    · rw [decide_eq_true z]
      rfl
    · rw [decide_eq_false z]
      exact q2
  have n1 : eFr (nLc (iSq (eFld "Table" "methods" (eVar 0))) (bSeq 2 (bCons (bName 2) (bCons (bName 3) bNil))) (tAnd' (tB' (eBin dNe (eVar 3) (eVar 1))) (tTru (eCall 3 M_is_shape_below (aCons (eFld "Table" "above" (eVar 0)) (aCons (eVar 3) (aCons (eVar 1) aNil)))))) (eVar 2) [2, 3]) ρ0 C = some (.dat (encL (nearL rs L s)), C) := by
    rw [e_fr, nLc_eq, i1, bnd_s, gd_t (by rw [List.length_map]; exact small_line (by omega)), c1, bnd_s, bnd_s, gd_t (show nolk (D.lst _) = true from rfl), filter_encM (fun u => (!decide (u = s)) && und rs u s) L]
    rfl
  unfold M_Table__nearer_than
  rw [runE_eq (by rfl)]
  unfold m_Table__nearer_than
  have e0 : startE 4 [x, Sv.dat (encS s)] = ρ0 := rfl
  rw [e0, s_ret, n1, bnd_s, bnd_s]
  simp [fin]
end DX

namespace DX
open PySem PySem.Spec L2
/-! ### a table is set out -/
theorem fset {f : Str} {e : SE} {ρ : Env} {C : Store} {z : D} {ds : List (Str × D)} (he : e ρ (C ++ [.ins "Table" ds]) = some (.dat z, C ++ [.ins "Table" ds])) (ho : ρ[0]? = some (some (.cel C.length))) (hl : ds.length < 1000) :
    sFldS "Table" f (eVar 0) e ρ (C ++ [.ins "Table" ds]) = some (.nx ρ, C ++ [.ins "Table" (putD f z ds)]) := by
  have v0 : eVar 0 ρ (C ++ [.ins "Table" ds]) = some (.cel C.length, C ++ [.ins "Table" ds]) := by simp [eVar, ho]
  unfold sFldS
  rw [he, bnd_s]
  show bn1 (some z) _ = _
  rw [bn1_s, v0, bnd_s]
  show bn1 ((C ++ [D.ins "Table" ds])[C.length]?) _ = _
  rw [List.getElem?_concat_length, bn1_s]
  show gd (("Table" : Str) = "Table" ∧ ds.length < 1000) _ = _
  rw [gd_t ⟨rfl, hl⟩, set_last]
theorem dcomp_map {enc : List Str → D} {b : D → Env → Option Env} {tt : ST} {tk te : SE} {ρ : Env} {X : Store} : ∀ (L acc : List Meth), (acc.map (·.1) ++ L.map (·.1)).Nodup →
    (∀ p ∈ L, ∃ ρ1, b (encM p) ρ = some ρ1 ∧ tt ρ1 X = some (true, X) ∧ tk ρ1 X = some (.dat (.str p.1), X) ∧ te ρ1 X = some (.dat (enc p.2), X)) →
    dcompL [] b tt tk te ρ (L.map encM) (acc.map fun p => ((Sum.inr p.1 : Key), enc p.2)) X = some ((acc ++ L).map fun p => ((Sum.inr p.1 : Key), enc p.2), X)
  | [], acc, _, _ => by
    rw [List.map_nil, List.append_nil]
    unfold dcompL
    exact gd_t rfl
  | p :: L, acc, nd, h => by
    obtain ⟨ρ1, q1, q2, q3, q4⟩ := h p List.mem_cons_self
    have nm : p.1 ∉ acc.map (·.1) := by
      intro z
      have := (List.nodup_append.mp nd).2.2 _ z p.1 (by simp)
      exact this rfl
    have nd' : ((acc ++ [p]).map (·.1) ++ L.map (·.1)).Nodup := by simpa using nd
    rw [List.map_cons]
    unfold dcompL
    rw [gd_t (show stays X [] = true from rfl), q1, bn1_s, q2, bnd_s, if_pos rfl, q3, bnd_s]
    show bn1 (some (D.str p.1)) _ = _
    rw [bn1_s]
    show bn1 (some (Sum.inr p.1 : Key)) _ = _
    rw [bn1_s, q4, bnd_s]
    show bn1 (some (enc p.2)) _ = _
    rw [bn1_s, put_tab (T := acc) (enc := enc) (s := p.1) (us := p.2) nm]
    have := dcomp_map L (acc ++ [p]) nd' fun q hq => h q (List.mem_cons_of_mem _ hq)
    rw [List.append_assoc] at this
    exact this
theorem lk_above {K Tb M : D} : ([("kinds", K), ("above", Tb), ("methods", M)] : List (Str × D)).lookup ("above" : Str) = some Tb := by
  have e1 : (("above" : Str) == "kinds") = false := by decide +kernel
  have e2 : (("above" : Str) == "above") = true := by decide +kernel
  simp only [List.lookup, e1, e2]
theorem lk_methods {K Tb M : D} : ([("kinds", K), ("above", Tb), ("methods", M)] : List (Str × D)).lookup ("methods" : Str) = some M := by
  have e1 : (("methods" : Str) == "kinds") = false := by decide +kernel
  have e2 : (("methods" : Str) == "above") = false := by decide +kernel
  have e3 : (("methods" : Str) == "methods") = true := by decide +kernel
  simp only [List.lookup, e1, e2, e3]
theorem lk_meth {K Tb M : D} : (([("kinds", K), ("above", Tb), ("methods", M)] : List (Str × D)).lookup ("_nearer_than" : Str)).isNone = true := by
  have e1 : (("_nearer_than" : Str) == "kinds") = false := by decide +kernel
  have e2 : (("_nearer_than" : Str) == "above") = false := by decide +kernel
  have e3 : (("_nearer_than" : Str) == "methods") = false := by decide +kernel
  simp only [List.lookup, e1, e2, e3, Option.isNone]
theorem init_ok {rs : List Row} {K : D} {items : List D} {n : Nat} {L : List Meth} {C : Store} (k : KOk rs) (h8 : rs.length ≤ 8) (hK : IsK K rs items) (hn : n ≤ 3) (go : GOk rs n L) (hl : L.length ≤ 60) :
    ∃ T, Tab rs rs.length T ∧ M_Table___init__ [.cel C.length, .dat (genD K n L)] (C ++ [.ins "Table" []]) = some (.dat .non, C ++ [tabO rs K T L]) := by
  obtain ⟨T, u1, t⟩ := uppers_ok (C := C ++ [.ins "Table" [("kinds", K)]]) k h8 hK
  refine ⟨T, t, ?_⟩
  let ρ0 : Env := [some (.cel C.length), some (.dat (genD K n L)), some (.dat K), some (.dat (.int n)), some (.dat (.tup (L.map encM))), none, none]
  let X1 : Store := C ++ [.ins "Table" [("kinds", K)]]
  let X2 : Store := C ++ [.ins "Table" [("kinds", K), ("above", tabD T)]]
  let X3 : Store := C ++ [.ins "Table" [("kinds", K), ("above", tabD T), ("methods", .lst (L.map encM))]]
  have a0 : sUnp (bSeq 3 (bCons (bName 2) (bCons (bName 3) (bCons (bName 4) bNil)))) (eVar 1) (startE 7 [Sv.cel C.length, Sv.dat (genD K n L)]) (C ++ [.ins "Table" []]) = some (.nx ρ0, C ++ [.ins "Table" []]) := rfl
  have a1 : sFldS "Table" "kinds" (eVar 0) (eVar 2) ρ0 (C ++ [.ins "Table" []]) = some (.nx ρ0, X1) := fset (z := K) rfl rfl (by decide)
  have a2 : sFldS "Table" "above" (eVar 0) (eCall 1 M_uppers (aCons (eVar 2) aNil)) ρ0 X1 = some (.nx ρ0, X2) := by
    have q : eCall 1 M_uppers (aCons (eVar 2) aNil) ρ0 X1 = some (.dat (tabD T), X1) := by
      have v2 : eVar 2 ρ0 X1 = some (.dat K, X1) := rfl
      rw [e_call, e_cons, v2, bnd_s, e_nil, bnd_s, bnd_s, g1]
      exact u1
    have w := fset (f := "above") (ρ := ρ0) q rfl (by show (1 : Nat) < 1000; decide)
    rw [w]
    have z : putD ("above" : Str) ((tabD T)) ([("kinds", K)] : List (Str × D)) = ([("kinds", K), ("above", tabD T)] : List (Str × D)) := by
      have e1 : ("kinds" : Str) ≠ "above" := by decide +kernel
      simp [putD, e1]
    rw [z]
  have a3 : sFldS "Table" "methods" (eVar 0) (eFr (nLc (iSq (eVar 4)) (bSeq 2 (bCons (bName 5) (bCons (bName 6) bNil))) tYes' (eTup (aCons (eVar 5) (aCons (eB dTuple (aCons (eVar 6) aNil)) aNil))) [5, 6])) ρ0 X2 = some (.nx ρ0, X3) := by
    have i1 : iSq (eVar 4) ρ0 X2 = some (⟨L.map encM, []⟩, X2) := rfl
    have c1 : compL [] (bSeq 2 (bCons (bName 5) (bCons (bName 6) bNil))) tYes' (eTup (aCons (eVar 5) (aCons (eB dTuple (aCons (eVar 6) aNil)) aNil))) (wipeE ρ0 [5, 6]) (L.map encM) X2 = some ((L.map encM).map id, X2) := by
      refine comp_map rfl fun d hd => ?_
      obtain ⟨p, hp, rfl⟩ := List.mem_map.mp hd
      have hz : (p.2.map D.str).length ≤ sizeLine := by
        rw [List.length_map, (go.shp p hp).1]
        exact small_line (by omega)
      refine ⟨[some (.cel C.length), some (.dat (genD K n L)), some (.dat K), some (.dat (.int n)), some (.dat (.tup (L.map encM))), some (.dat (.str p.1)), some (.dat (encS p.2))], rfl, ?_⟩
      rfl
    have q : eFr (nLc (iSq (eVar 4)) (bSeq 2 (bCons (bName 5) (bCons (bName 6) bNil))) tYes' (eTup (aCons (eVar 5) (aCons (eB dTuple (aCons (eVar 6) aNil)) aNil))) [5, 6]) ρ0 X2 = some (.dat (.lst (L.map encM)), X2) := by
      rw [e_fr, nLc_eq, i1, bnd_s, gd_t (by rw [List.length_map]; exact small_line (by omega)), c1, bnd_s, bnd_s, gd_t (show nolk (D.lst _) = true from rfl), List.map_id]
    rw [fset (f := "methods") (ρ := ρ0) q rfl (by show (2 : Nat) < 1000; decide)]
    have z : putD ("methods" : Str) ((.lst (L.map encM))) ([("kinds", K), ("above", tabD T)] : List (Str × D)) = ([("kinds", K), ("above", tabD T), ("methods", .lst (L.map encM))] : List (Str × D)) := by
      have e1 : ("kinds" : Str) ≠ "methods" := by decide +kernel
      have e2 : ("above" : Str) ≠ "methods" := by decide +kernel
      simp [putD, e1, e2]
    rw [z]
  have a4 : sFldS "Table" "nearer" (eVar 0) (eFr (nDc (iSq (eFld "Table" "methods" (eVar 0))) (bSeq 2 (bCons (bName 5) (bCons (bName 6) bNil))) tYes' (eVar 5) (eMeth "Table" "_nearer_than" 2 M_Table__nearer_than (eVar 0) (aCons (eVar 6) aNil)) [5, 6])) ρ0 X3 = some (.nx ρ0, C ++ [tabO rs K T L]) := by
    have s0 : see X3 (.cel C.length) = some (.ins "Table" [("kinds", K), ("above", tabD T), ("methods", .lst (L.map encM))]) := by
      rw [see_c]
      show Option.map unlk ((C ++ [D.ins "Table" _])[C.length]?) = _
      rw [List.getElem?_concat_length]
      rfl
    have fm : eFld "Table" "methods" (eVar 0) ρ0 X3 = some (.dat (.lst (L.map encM)), X3) := by
      have v0 : eVar 0 ρ0 X3 = some (.cel C.length, X3) := rfl
      unfold eFld
      rw [v0, bnd_s, s0, bn1_s]
      show gd (("Table" : Str) = "Table") (bn1 (([("kinds", K), ("above", tabD T), ("methods", .lst (L.map encM))] : List (Str × D)).lookup ("methods" : Str)) fun z => some (Sv.dat z, X3)) = _
      rw [gd_t rfl, lk_methods, bn1_s]
    have i1 : iSq (eFld "Table" "methods" (eVar 0)) ρ0 X3 = some (⟨L.map encM, []⟩, X3) := by
      rw [iSq_eq, fm, bnd_s]
      rfl
    have c1 := dcomp_map (enc := fun s => encL (nearL rs L s)) (b := bSeq 2 (bCons (bName 5) (bCons (bName 6) bNil))) (tt := tYes') (tk := eVar 5) (te := eMeth "Table" "_nearer_than" 2 M_Table__nearer_than (eVar 0) (aCons (eVar 6) aNil)) (ρ := wipeE ρ0 [5, 6]) (X := X3) L [] (by simpa using go.nd) fun p hp => by
      let ρ1 : Env := [some (.cel C.length), some (.dat (genD K n L)), some (.dat K), some (.dat (.int n)), some (.dat (.tup (L.map encM))), some (.dat (.str p.1)), some (.dat (encS p.2))]
      refine ⟨ρ1, rfl, rfl, rfl, ?_⟩
      have v0 : eVar 0 ρ1 X3 = some (.cel C.length, X3) := rfl
      have v6 : eVar 6 ρ1 X3 = some (.dat (encS p.2), X3) := rfl
      unfold eMeth
      rw [v0, bnd_s, s0, bn1_s]
      show gd (("Table" : Str) = "Table" ∧ ((([("kinds", K), ("above", tabD T), ("methods", .lst (L.map encM))] : List (Str × D)).lookup ("_nearer_than" : Str)).isNone = true)) _ = _
      rw [gd_t ⟨rfl, lk_meth⟩, e_cons, v6, bnd_s, e_nil, bnd_s, bnd_s, gd_t (show [Sv.dat (encS p.2)].length + 1 = 2 from rfl)]
      exact nearer_ok k t hn go hl (go.shp p hp) s0 lk_above lk_methods
    have q : eFr (nDc (iSq (eFld "Table" "methods" (eVar 0))) (bSeq 2 (bCons (bName 5) (bCons (bName 6) bNil))) tYes' (eVar 5) (eMeth "Table" "_nearer_than" 2 M_Table__nearer_than (eVar 0) (aCons (eVar 6) aNil)) [5, 6]) ρ0 X3 = some (.dat (nearD rs L), X3) := by
      rw [e_fr]
      unfold nDc
      rw [i1, bnd_s, gd_t (by rw [List.length_map]; exact small_line (by omega))]
      show bnd (bnd (dcompL [] _ _ _ _ _ (L.map encM) (([] : List Meth).map fun p => ((Sum.inr p.1 : Key), encL (nearL rs L p.2))) X3) _) _ = _
      rw [c1, bnd_s, bnd_s, gd_t (show nolk (D.dK _) = true from rfl)]
      rfl
    rw [fset (f := "nearer") (ρ := ρ0) q rfl (by show (3 : Nat) < 1000; decide)]
    have z : putD ("nearer" : Str) ((nearD rs L)) ([("kinds", K), ("above", tabD T), ("methods", .lst (L.map encM))] : List (Str × D)) = ([("kinds", K), ("above", tabD T), ("methods", .lst (L.map encM)), ("nearer", nearD rs L)] : List (Str × D)) := by
      have e1 : ("kinds" : Str) ≠ "nearer" := by decide +kernel
      have e2 : ("above" : Str) ≠ "nearer" := by decide +kernel
      have e3 : ("methods" : Str) ≠ "nearer" := by decide +kernel
      simp [putD, e1, e2, e3]
    rw [z]
    rfl
  unfold M_Table___init__
  rw [runE_eq (by rfl)]
  unfold m_Table___init__
  rw [s_seq, a0, bnd_s]
  dsimp only
  rw [s_seq, a1, bnd_s]
  dsimp only
  rw [s_seq, a2, bnd_s]
  dsimp only
  rw [s_seq, a3, bnd_s]
  dsimp only
  rw [a4, bnd_s]
  simp only [fin]
  rw [List.take_of_length_le (by simp)]
theorem new_ok {rs : List Row} {K : D} {items : List D} {n : Nat} {L : List Meth} {C : Store} (k : KOk rs) (h8 : rs.length ≤ 8) (hK : IsK K rs items) (hn : n ≤ 3) (go : GOk rs n L) (hl : L.length ≤ 60) :
    ∃ T, Tab rs rs.length T ∧ ∀ (ρ : Env) (i : Nat), eVar i ρ C = some (.dat (genD K n L), C) → eFr (nMk "Table" 2 M_Table___init__ (aCons (eVar i) aNil)) ρ C = some (.dat (tabO rs K T L), C) := by
  obtain ⟨T, t, e⟩ := init_ok (C := C) k h8 hK hn go hl
  refine ⟨T, t, fun ρ i v => ?_⟩
  rw [e_fr]
  unfold nMk
  rw [e_cons, v, bnd_s, e_nil, bnd_s, bnd_s, gd_t (show [Sv.dat (genD K n L)].length + 1 = 2 from rfl), e, bnd_s]
  show bnd (bn1 ((C ++ [tabO rs K T L])[C.length]?) fun d => some (d, (C ++ [tabO rs K T L]).take C.length)) _ = _
  rw [List.getElem?_concat_length, bn1_s, List.take_left' rfl, bnd_s, gd_t (show nolk (tabO rs K T L) = true from rfl)]
end DX

namespace DX
open PySem PySem.Spec L2
theorem lt_kinds {A B M N : D} : ([("kinds", A), ("above", B), ("methods", M), ("nearer", N)] : List (Str × D)).lookup ("above" : Str) = some B := by
  have e1 : (("above" : Str) == "kinds") = false := by decide +kernel
  have e2 : (("above" : Str) == "above") = true := by decide +kernel
  simp only [List.lookup, e1, e2]
theorem lt_methods {A B M N : D} : ([("kinds", A), ("above", B), ("methods", M), ("nearer", N)] : List (Str × D)).lookup ("methods" : Str) = some M := by
  have e1 : (("methods" : Str) == "kinds") = false := by decide +kernel
  have e2 : (("methods" : Str) == "above") = false := by decide +kernel
  have e3 : (("methods" : Str) == "methods") = true := by decide +kernel
  simp only [List.lookup, e1, e2, e3]
theorem lt_nearer {A B M N : D} : ([("kinds", A), ("above", B), ("methods", M), ("nearer", N)] : List (Str × D)).lookup ("nearer" : Str) = some N := by
  have e1 : (("nearer" : Str) == "kinds") = false := by decide +kernel
  have e2 : (("nearer" : Str) == "above") = false := by decide +kernel
  have e3 : (("nearer" : Str) == "methods") = false := by decide +kernel
  have e4 : (("nearer" : Str) == "nearer") = true := by decide +kernel
  simp only [List.lookup, e1, e2, e3, e4]
theorem lt_fit {A B M N : D} : (([("kinds", A), ("above", B), ("methods", M), ("nearer", N)] : List (Str × D)).lookup ("fitting" : Str)).isNone = true := by
  have e1 : (("fitting" : Str) == "kinds") = false := by decide +kernel
  have e2 : (("fitting" : Str) == "above") = false := by decide +kernel
  have e3 : (("fitting" : Str) == "methods") = false := by decide +kernel
  have e4 : (("fitting" : Str) == "nearer") = false := by decide +kernel
  simp only [List.lookup, e1, e2, e3, e4, Option.isNone]
theorem lt_nst {A B M N : D} : (([("kinds", A), ("above", B), ("methods", M), ("nearer", N)] : List (Str × D)).lookup ("nearest" : Str)).isNone = true := by
  have e1 : (("nearest" : Str) == "kinds") = false := by decide +kernel
  have e2 : (("nearest" : Str) == "above") = false := by decide +kernel
  have e3 : (("nearest" : Str) == "methods") = false := by decide +kernel
  have e4 : (("nearest" : Str) == "nearer") = false := by decide +kernel
  simp only [List.lookup, e1, e2, e3, e4, Option.isNone]
theorem tfit_ok {rs : List Row} {K : D} {T : List (Str × List Str)} {L : List Meth} {C : Store} (k : KOk rs) (t : Tab rs rs.length T) {n : Nat} (hn : n ≤ 3) (go : GOk rs n L) (hl : L.length ≤ 60) {c : List Str} (hc : Shp rs n c) :
    M_Table_fitting [.dat (tabO rs K T L), .dat (encS c)] C = some (.dat (encL (fitL rs L c)), C) := by
  let ρ0 : Env := [some (.dat (tabO rs K T L)), some (.dat (encS c)), none, none]
  have fm : eFld "Table" "methods" (eVar 0) ρ0 C = some (.dat (.lst (L.map encM)), C) := by
    have v0 : eVar 0 ρ0 C = some (.dat (tabO rs K T L), C) := rfl
    unfold eFld
    rw [v0, bnd_s, see_d, bn1_s]
    show gd (("Table" : Str) = "Table") (bn1 (([("kinds", K), ("above", tabD T), ("methods", .lst (L.map encM)), ("nearer", nearD rs L)] : List (Str × D)).lookup ("methods" : Str)) fun z => some (Sv.dat z, C)) = _
    rw [gd_t rfl, lt_methods, bn1_s]
  have i1 : iSq (eFld "Table" "methods" (eVar 0)) ρ0 C = some (⟨L.map encM, []⟩, C) := by
    rw [iSq_eq, fm, bnd_s]
    rfl
  have c1 : compL [] (bSeq 2 (bCons (bName 2) (bCons (bName 3) bNil))) (tTru (eCall 3 M_is_shape_below (aCons (eFld "Table" "above" (eVar 0)) (aCons (eVar 1) (aCons (eVar 3) aNil))))) (eVar 2) (wipeE ρ0 [2, 3]) (L.map encM) C = some (((L.map encM).filter (fun d => (fun u => und rs c u) (sndS d))).map fstD, C) := by
    refine comp_filter rfl fun d hd => ?_
    obtain ⟨p, hp, rfl⟩ := List.mem_map.mp hd
    have sp := go.shp p hp
    let ρ1 : Env := [some (.dat (tabO rs K T L)), some (.dat (encS c)), some (.dat (.str p.1)), some (.dat (encS p.2))]
    refine ⟨ρ1, rfl, ?_, fun _ => rfl⟩
    have q2 := und_e (C := C) (ρ := ρ1) (o := eVar 0) (a := eVar 1) (b := eVar 3) (x := .dat (tabO rs K T L)) k t hn hc sp rfl (see_d) lt_kinds rfl rfl
    rw [snd_enc]
    exact q2
  unfold M_Table_fitting
  rw [runE_eq (by rfl)]
  unfold m_Table_fitting
  have e0 : startE 4 [Sv.dat (tabO rs K T L), Sv.dat (encS c)] = ρ0 := rfl
  rw [e0, s_ret, e_fr, nLc_eq, i1, bnd_s, gd_t (by rw [List.length_map]; exact small_line (by omega)), c1, bnd_s, bnd_s, gd_t (show nolk (D.lst _) = true from rfl), filter_encM (fun u => und rs c u) L, bnd_s, bnd_s]
  show some (Sv.dat _, C.take C.length) = _
  rw [List.take_length]
  rfl
theorem fit_strok {rs : List Row} {n : Nat} {L : List Meth} (go : GOk rs n L) {c : List Str} : ∀ u ∈ fitL rs L c, PyData.strOk u = true := fun u hu => by
  obtain ⟨p, hp, rfl⟩ := List.mem_map.mp hu
  exact go.ok p (List.mem_filter.mp hp).1
open Classical in
noncomputable def nearB (rs : List Row) (L : List Meth) (c : List Str) (l : Str) : Bool := decide (∃ p ∈ L, p.1 = l ∧ (!((nearL rs L p.2).any fun l => decide (l ∈ fitL rs L c))) = true)
theorem inj_fst {L : List Meth} (nd : (L.map (·.1)).Nodup) {p q : Meth} (hp : p ∈ L) (hq : q ∈ L) (h : p.1 = q.1) : p = q := by
  induction L with
  | nil => cases hp
  | cons a L ih =>
    rw [List.map_cons, List.nodup_cons] at nd
    rcases List.mem_cons.mp hp with z1 | z1 <;> rcases List.mem_cons.mp hq with z2 | z2
    · rw [z1, z2]
    · exact absurd (List.mem_map.mpr ⟨q, z2, by rw [← h, z1]⟩) nd.1
    · exact absurd (List.mem_map.mpr ⟨p, z1, by rw [h, z2]⟩) nd.1
    · exact ih nd.2 z1 z2
theorem nearB_at {rs : List Row} {L : List Meth} {c : List Str} (nd : (L.map (·.1)).Nodup) {p : Meth} (hp : p ∈ L) : nearB rs L c p.1 = !((nearL rs L p.2).any fun l => decide (l ∈ fitL rs L c)) := by
  unfold nearB
  rw [Bool.eq_iff_iff, decide_eq_true_iff]
  constructor
  · rintro ⟨q, hq, e, h⟩
    rw [← inj_fst nd hq hp e]
    exact h
  · exact fun h => ⟨p, hp, rfl, h⟩
theorem tnst_ok {rs : List Row} {K : D} {T : List (Str × List Str)} {L : List Meth} {C : Store} (k : KOk rs) (t : Tab rs rs.length T) {n : Nat} (hn : n ≤ 3) (go : GOk rs n L) (hl : L.length ≤ 60) {c : List Str} (hc : Shp rs n c) :
    M_Table_nearest [.dat (tabO rs K T L), .dat (encS c)] C = some (.dat (encL (nstL rs L c)), C) := by
  let o : D := tabO rs K T L
  let fl := fitL rs L c
  have fll : fl.length ≤ 60 := by
    show (List.map _ (List.filter _ L)).length ≤ 60
    rw [List.length_map]
    exact Nat.le_trans (List.length_filter_le _ _) hl
  let ρ0 : Env := [some (.dat o), some (.dat (encS c)), none, none, none]
  let ρ1 : Env := [some (.dat o), some (.dat (encS c)), some (.dat (encL fl)), none, none]
  have a1 : sSet 2 (eMeth "Table" "fitting" 2 M_Table_fitting (eVar 0) (aCons (eVar 1) aNil)) ρ0 C = some (.nx ρ1, C) := by
    have v0 : eVar 0 ρ0 C = some (.dat o, C) := rfl
    have v1 : eVar 1 ρ0 C = some (.dat (encS c), C) := rfl
    have q : eMeth "Table" "fitting" 2 M_Table_fitting (eVar 0) (aCons (eVar 1) aNil) ρ0 C = some (.dat (encL fl), C) := by
      unfold eMeth
      rw [v0, bnd_s, see_d, bn1_s]
      show gd (("Table" : Str) = "Table" ∧ ((([("kinds", K), ("above", tabD T), ("methods", .lst (L.map encM)), ("nearer", nearD rs L)] : List (Str × D)).lookup ("fitting" : Str)).isNone = true)) _ = _
      rw [gd_t ⟨rfl, lt_fit⟩, e_cons, v1, bnd_s, e_nil, bnd_s, bnd_s, gd_t (show [Sv.dat (encS c)].length + 1 = 2 from rfl)]
      exact tfit_ok k t hn go hl hc
    rw [s_set, q, bnd_s]
    rfl
  have i1 : iSq (eVar 2) ρ1 C = some (⟨fl.map D.str, []⟩, C) := rfl
  have c1 : compL [] (bName 3) (tNot' (tTru (eB dAny (aCons (eFr (nLc (iSq (eBin dIx (eFld "Table" "nearer" (eVar 0)) (eVar 3))) (bName 4) tYes' (eBin dIn (eVar 4) (eVar 2)) [4])) aNil)))) (eVar 3) (wipeE ρ1 [3]) (fl.map D.str) C = some (((fl.map D.str).filter (fun d => nearB rs L c (undS d))).map id, C) := by
    refine comp_filter rfl fun d hd => ?_
    obtain ⟨l, hl2, rfl⟩ := List.mem_map.mp hd
    obtain ⟨p, hp0, rfl⟩ := List.mem_map.mp hl2
    have hp : p ∈ L := (List.mem_filter.mp hp0).1
    let ρ2 : Env := [some (.dat o), some (.dat (encS c)), some (.dat (encL fl)), some (.dat (.str p.1)), none]
    refine ⟨ρ2, rfl, ?_, fun _ => rfl⟩
    have v3 : eVar 3 ρ2 C = some (.dat (.str p.1), C) := rfl
    have fn : eFld "Table" "nearer" (eVar 0) ρ2 C = some (.dat (nearD rs L), C) := by
      have v0 : eVar 0 ρ2 C = some (.dat o, C) := rfl
      unfold eFld
      rw [v0, bnd_s, see_d, bn1_s]
      show gd (("Table" : Str) = "Table") (bn1 (([("kinds", K), ("above", tabD T), ("methods", .lst (L.map encM)), ("nearer", nearD rs L)] : List (Str × D)).lookup ("nearer" : Str)) fun z => some (Sv.dat z, C)) = _
      rw [gd_t rfl, lt_nearer, bn1_s]
    have ixp : dIx (nearD rs L) (.str p.1) = some (encL (nearL rs L p.2)) := by
      obtain ⟨q, hq, e1, e2⟩ := get_tab (T := L) (enc := fun s => encL (nearL rs L s)) (s := p.1) (List.mem_map.mpr ⟨p, hp, rfl⟩)
      rw [inj_fst go.nd hq hp e1] at e2
      exact e2
    have i2 : iSq (eBin dIx (eFld "Table" "nearer" (eVar 0)) (eVar 3)) ρ2 C = some (⟨(nearL rs L p.2).map D.str, []⟩, C) := by
      rw [iSq_eq, e_bin, fn, bnd_s, v3, bnd_s, see_d, bn1_s, see_d, bn1_s, ixp, bn1_s, bnd_s]
      rfl
    have nll : (nearL rs L p.2).length ≤ 60 := by
      show (List.map _ (List.filter _ L)).length ≤ 60
      rw [List.length_map]
      exact Nat.le_trans (List.length_filter_le _ _) hl
    have c2 : compL [] (bName 4) tYes' (eBin dIn (eVar 4) (eVar 2)) (wipeE ρ2 [4]) ((nearL rs L p.2).map D.str) C = some (((nearL rs L p.2).map D.str).map fun d => D.bl (decide (undS d ∈ fl)), C) := by
      refine comp_map rfl fun d hd => ?_
      obtain ⟨m, hm, rfl⟩ := List.mem_map.mp hd
      refine ⟨[some (.dat o), some (.dat (encS c)), some (.dat (encL fl)), some (.dat (.str p.1)), some (.dat (.str m))], rfl, ?_⟩
      have mo : PyData.strOk m = true := by
        obtain ⟨q, hq, rfl⟩ := List.mem_map.mp hm
        exact go.ok q (List.mem_filter.mp hq).1
      have v4 : eVar 4 [some (.dat o), some (.dat (encS c)), some (.dat (encL fl)), some (.dat (.str p.1)), some (.dat (.str m))] C = some (.dat (.str m), C) := rfl
      have v2 : eVar 2 [some (.dat o), some (.dat (encS c)), some (.dat (encL fl)), some (.dat (.str p.1)), some (.dat (.str m))] C = some (.dat (encL fl), C) := rfl
      rw [e_bin, v4, bnd_s, v2, bnd_s, see_d, bn1_s, see_d, bn1_s, in_encL (fit_strok go) mo, bn1_s]
      rfl
    have t1 : tTru (eB dAny (aCons (eFr (nLc (iSq (eBin dIx (eFld "Table" "nearer" (eVar 0)) (eVar 3))) (bName 4) tYes' (eBin dIn (eVar 4) (eVar 2)) [4])) aNil)) ρ2 C = some ((nearL rs L p.2).any (fun l => decide (l ∈ fl)), C) := by
      rw [t_tru, e_b, e_cons, e_fr, nLc_eq, i2, bnd_s, gd_t (by rw [List.length_map]; exact small_line (by omega)), c2, bnd_s, bnd_s, gd_t (show nolk (D.lst _) = true from rfl), bnd_s, e_nil, bnd_s, bnd_s]
      show bnd (bn1 (dAny [.lst ((List.map D.str (nearL rs L p.snd)).map fun d => D.bl (decide (undS d ∈ fl)))]) fun z => some (Sv.dat z, C)) _ = _
      rw [any_bl _ (fun l => decide (l ∈ fl)), bn1_s, bnd_s, see_d, bn1_s]
      rfl
    rw [t_not, t1, bnd_s]
    show _ = some (nearB rs L c p.1, C)
    rw [nearB_at go.nd hp]
  unfold M_Table_nearest
  rw [runE_eq (by rfl)]
  unfold m_Table_nearest
  have e0 : startE 5 [Sv.dat (tabO rs K T L), Sv.dat (encS c)] = ρ0 := rfl
  rw [e0, s_seq, a1, bnd_s]
  dsimp only
  rw [s_ret, e_fr, nLc_eq, i1, bnd_s, gd_t (by rw [List.length_map]; exact small_line (by omega)), c1, bnd_s, bnd_s, gd_t (show nolk (D.lst _) = true from rfl), List.map_id, filter_str, bnd_s, bnd_s]
  have e1 : fl.filter (nearB rs L c) = nstL rs L c := by
    show (List.map (·.1) (L.filter fun p => und rs c p.2)).filter (nearB rs L c) = (L.filter _).map (·.1)
    rw [List.filter_map, List.filter_filter]
    congr 1
    refine List.filter_congr fun p hp => ?_
    rw [Function.comp, nearB_at go.nd hp, Bool.and_comm]
  rw [e1]
  show some (Sv.dat _, C.take C.length) = _
  rw [List.take_length]
  rfl
end DX

namespace DX
open PySem PySem.Spec L2
structure Ge (rs : List Row) (K : D) (items : List D) (n : Nat) (L : List Meth) : Prop where
  k : KOk rs
  h8 : rs.length ≤ 8
  hK : IsK K rs items
  hn : n ≤ 3
  go : GOk rs n L
  hl : L.length ≤ 60
variable {rs : List Row} {K : D} {items : List D} {n : Nat} {L : List Meth} {C : Store}
theorem fitting_ok (g : Ge rs K items n L) {c : List Str} (hc : Shp rs n c) : M_fitting [.dat (genD K n L), .dat (encS c)] C = some (.dat (encL (fitL rs L c)), C) := by
  obtain ⟨T, t, e⟩ := new_ok (C := C) g.k g.h8 g.hK g.hn g.go g.hl
  let ρ0 : Env := [some (.dat (genD K n L)), some (.dat (encS c))]
  have v1 : eVar 1 ρ0 C = some (.dat (encS c), C) := rfl
  have q : eMeth "Table" "fitting" 2 M_Table_fitting (eFr (nMk "Table" 2 M_Table___init__ (aCons (eVar 0) aNil))) (aCons (eVar 1) aNil) ρ0 C = some (.dat (encL (fitL rs L c)), C) := by
    unfold eMeth
    rw [e ρ0 0 rfl, bnd_s, see_d, bn1_s]
    show gd (("Table" : Str) = "Table" ∧ ((([("kinds", K), ("above", tabD T), ("methods", .lst (L.map encM)), ("nearer", nearD rs L)] : List (Str × D)).lookup ("fitting" : Str)).isNone = true)) _ = _
    rw [gd_t ⟨rfl, lt_fit⟩, e_cons, v1, bnd_s, e_nil, bnd_s, bnd_s, gd_t (show [Sv.dat (encS c)].length + 1 = 2 from rfl)]
    exact tfit_ok g.k t g.hn g.go g.hl hc
  unfold M_fitting
  rw [runE_eq (by rfl)]
  unfold m_fitting
  have e0 : startE 2 [Sv.dat (genD K n L), Sv.dat (encS c)] = ρ0 := rfl
  rw [e0, s_ret, q, bnd_s, bnd_s]
  show some (Sv.dat _, C.take C.length) = _
  rw [List.take_length]
theorem nst_e (g : Ge rs K items n L) {T : List (Str × List Str)} (t : Tab rs rs.length T) {ρ : Env} {o a : SE} {c : List Str} (hc : Shp rs n c) (ho : o ρ C = some (.dat (tabO rs K T L), C)) (ha : a ρ C = some (.dat (encS c), C)) :
    eMeth "Table" "nearest" 2 M_Table_nearest o (aCons a aNil) ρ C = some (.dat (encL (nstL rs L c)), C) := by
  unfold eMeth
  rw [ho, bnd_s, see_d, bn1_s]
  show gd (("Table" : Str) = "Table" ∧ ((([("kinds", K), ("above", tabD T), ("methods", .lst (L.map encM)), ("nearer", nearD rs L)] : List (Str × D)).lookup ("nearest" : Str)).isNone = true)) _ = _
  rw [gd_t ⟨rfl, lt_nst⟩, e_cons, ha, bnd_s, e_nil, bnd_s, bnd_s, gd_t (show [Sv.dat (encS c)].length + 1 = 2 from rfl)]
  exact tnst_ok g.k t g.hn g.go g.hl hc
theorem nearest_ok (g : Ge rs K items n L) {c : List Str} (hc : Shp rs n c) : M_nearest [.dat (genD K n L), .dat (encS c)] C = some (.dat (encL (nstL rs L c)), C) := by
  obtain ⟨T, t, e⟩ := new_ok (C := C) g.k g.h8 g.hK g.hn g.go g.hl
  let ρ0 : Env := [some (.dat (genD K n L)), some (.dat (encS c))]
  unfold M_nearest
  rw [runE_eq (by rfl)]
  unfold m_nearest
  have e0 : startE 2 [Sv.dat (genD K n L), Sv.dat (encS c)] = ρ0 := rfl
  rw [e0, s_ret, nst_e g t hc (e ρ0 0 rfl) rfl, bnd_s, bnd_s]
  show some (Sv.dat _, C.take C.length) = _
  rw [List.take_length]
def wordOf : List Str → Str
  | [] => "none"
  | [l] => l
  | _ => "torn"
def chTail : SS := sSeq (sIf (tNot' (tTru (eVar 2))) (sRet (eC (.str "none"))) sNil) (sSeq (sIf (tB' (eBin dGt (eB dLen (aCons (eVar 2) aNil)) (eC (.int 1)))) (sRet (eC (.str "torn"))) sNil) (sRet (eBin dIx (eVar 2) (eC (.int 0)))))
theorem ch_tail (a b : Option Sv) : ∀ N : List Str, chTail [a, b, some (.dat (encL N))] C = some (.rt (.dat (.str (wordOf N))), C)
  | [] => rfl
  | [l] => rfl
  | l :: m :: N => by
    have q : tNot' (tTru (eVar 2)) [a, b, some (.dat (encL (l :: m :: N)))] C = some (false, C) := rfl
    have q2 : tB' (eBin dGt (eB dLen (aCons (eVar 2) aNil)) (eC (.int 1))) [a, b, some (.dat (encL (l :: m :: N)))] C = some (true, C) := by
      have w : tB' (eBin dGt (eB dLen (aCons (eVar 2) aNil)) (eC (.int 1))) [a, b, some (.dat (encL (l :: m :: N)))] C = some (decide ((1 : Int) < (((l :: m :: N).map D.str).length : Nat)), C) := rfl
      rw [w, decide_eq_true (by simp; omega)]
    unfold chTail
    rw [s_seq]
    unfold sIf
    rw [q, bnd_s, if_neg (by decide)]
    show bnd (some (Fl.nx _, C)) _ = _
    rw [bnd_s]
    dsimp only
    rw [s_seq, q2, bnd_s, if_pos rfl]
    rfl
theorem lt_ch2 {A B M N : D} : (([("kinds", A), ("above", B), ("methods", M), ("nearer", N)] : List (Str × D)).lookup ("chosen" : Str)).isNone = true := by
  have e1 : (("chosen" : Str) == "kinds") = false := by decide +kernel
  have e2 : (("chosen" : Str) == "above") = false := by decide +kernel
  have e3 : (("chosen" : Str) == "methods") = false := by decide +kernel
  have e4 : (("chosen" : Str) == "nearer") = false := by decide +kernel
  simp only [List.lookup, e1, e2, e3, e4, Option.isNone]
theorem Tchosen_ok (g : Ge rs K items n L) {T : List (Str × List Str)} (t : Tab rs rs.length T) {c : List Str} (hc : Shp rs n c) : M_Table_chosen [.dat (tabO rs K T L), .dat (encS c)] C = some (.dat (.str (wordOf (nstL rs L c))), C) := by
  let ρ0 : Env := [some (.dat (tabO rs K T L)), some (.dat (encS c)), none]
  let ρ1 : Env := [some (.dat (tabO rs K T L)), some (.dat (encS c)), some (.dat (encL (nstL rs L c)))]
  have a1 : sSet 2 (eMeth "Table" "nearest" 2 M_Table_nearest (eVar 0) (aCons (eVar 1) aNil)) ρ0 C = some (.nx ρ1, C) := by
    rw [s_set, nst_e g t hc rfl rfl, bnd_s]
    rfl
  unfold M_Table_chosen
  rw [runE_eq (by rfl)]
  unfold m_Table_chosen
  have e0 : startE 3 [Sv.dat (tabO rs K T L), Sv.dat (encS c)] = ρ0 := rfl
  rw [e0, s_seq, a1, bnd_s]
  show bnd (chTail ρ1 C) _ = _
  rw [ch_tail, bnd_s]
  show some (Sv.dat _, C.take C.length) = _
  rw [List.take_length]
theorem chosen_ok (g : Ge rs K items n L) {c : List Str} (hc : Shp rs n c) : M_chosen [.dat (genD K n L), .dat (encS c)] C = some (.dat (.str (wordOf (nstL rs L c))), C) := by
  obtain ⟨T, t, e⟩ := new_ok (C := C) g.k g.h8 g.hK g.hn g.go g.hl
  let ρ0 : Env := [some (.dat (genD K n L)), some (.dat (encS c))]
  have v1 : eVar 1 ρ0 C = some (.dat (encS c), C) := rfl
  have q : eMeth "Table" "chosen" 2 M_Table_chosen (eFr (nMk "Table" 2 M_Table___init__ (aCons (eVar 0) aNil))) (aCons (eVar 1) aNil) ρ0 C = some (.dat (.str (wordOf (nstL rs L c))), C) := by
    unfold eMeth
    rw [e ρ0 0 rfl, bnd_s, see_d, bn1_s]
    show gd (("Table" : Str) = "Table" ∧ ((([("kinds", K), ("above", tabD T), ("methods", .lst (L.map encM)), ("nearer", nearD rs L)] : List (Str × D)).lookup ("chosen" : Str)).isNone = true)) _ = _
    rw [gd_t ⟨rfl, lt_ch2⟩, e_cons, v1, bnd_s, e_nil, bnd_s, bnd_s, gd_t (show [Sv.dat (encS c)].length + 1 = 2 from rfl)]
    exact Tchosen_ok g t hc
  unfold M_chosen
  rw [runE_eq (by rfl)]
  unfold m_chosen
  have e0 : startE 2 [Sv.dat (genD K n L), Sv.dat (encS c)] = ρ0 := rfl
  rw [e0, s_ret, q, bnd_s, bnd_s]
  show some (Sv.dat _, C.take C.length) = _
  rw [List.take_length]
noncomputable def tornL (rs : List Row) (L : List Meth) (n : Nat) : List (List Str) := (SHs rs n).filter fun c => decide (1 < (nstL rs L c).length)
theorem torn_ok (g : Ge rs K items n L) : M_torn [.dat (genD K n L)] C = some (.dat (encSs (tornL rs L n)), C) := by
  obtain ⟨T, t, e⟩ := new_ok (C := C) g.k g.h8 g.hK g.hn g.go g.hl
  have t1 : M__torn_calls [.dat (tabO rs K T L), .dat (genD K n L)] C = some (.dat (encSs (tornL rs L n)), C) := by
    let ρ0 : Env := [some (.dat (tabO rs K T L)), some (.dat (genD K n L)), none]
    have v1 : eVar 1 ρ0 C = some (.dat (genD K n L), C) := rfl
    have i0 : eFr (nCall 1 M_shapes (aCons (eVar 1) aNil)) ρ0 C = some (.dat (encSs (SHs rs n)), C) := by
      rw [e_fr]
      unfold nCall
      rw [e_cons, v1, bnd_s, e_nil, bnd_s, bnd_s, g1, shapes_ok (gen := genD K n L) g.h8 g.hK g.hn (Or.inl rfl), bnd_s, gd_t (show nolk (D.lst _) = true from rfl)]
      rfl
    have i1 : iSq (eFr (nCall 1 M_shapes (aCons (eVar 1) aNil))) ρ0 C = some (⟨(SHs rs n).map encS, []⟩, C) := by
      rw [iSq_eq, i0, bnd_s]
      rfl
    have c1 : compL [] (bName 2) (tB' (eBin dGt (eB dLen (aCons (eMeth "Table" "nearest" 2 M_Table_nearest (eVar 0) (aCons (eVar 2) aNil)) aNil)) (eC (.int 1)))) (eVar 2) (wipeE ρ0 [2]) ((SHs rs n).map encS) C = some ((((SHs rs n).map encS).filter (fun d => (fun c => decide (1 < (nstL rs L c).length)) (dec d))).map id, C) := by
      refine comp_filter rfl fun d hd => ?_
      obtain ⟨c, hc0, rfl⟩ := List.mem_map.mp hd
      have hc := sh_shp hc0
      let ρ1 : Env := [some (.dat (tabO rs K T L)), some (.dat (genD K n L)), some (.dat (encS c))]
      refine ⟨ρ1, rfl, ?_, fun _ => rfl⟩
      have q := nst_e (C := C) (ρ := ρ1) (o := eVar 0) (a := eVar 2) g t hc rfl rfl
      have q2 : eB dLen (aCons (eMeth "Table" "nearest" 2 M_Table_nearest (eVar 0) (aCons (eVar 2) aNil)) aNil) ρ1 C = some (.dat (.int ((nstL rs L c).map D.str).length), C) := by
        rw [e_b, e_cons, q, bnd_s, e_nil, bnd_s, bnd_s]
        rfl
      have w : dGt (.int ((nstL rs L c).map D.str).length) (.int 1) = some (.bl (decide ((1 : Int) < ((nstL rs L c).map D.str).length))) := rfl
      have v : eC (.int 1) ρ1 C = some (.dat (.int 1), C) := rfl
      rw [dec_enc, t_b, e_bin, q2, bnd_s, v, bnd_s, see_d, bn1_s, see_d, bn1_s, w, bn1_s, bnd_s]
      show some (decide _, C) = _
      congr 2
      rw [decide_eq_decide, List.length_map]
      omega
    unfold M__torn_calls
    rw [runE_eq (by rfl)]
    unfold m__torn_calls
    have e0 : startE 3 [Sv.dat (tabO rs K T L), Sv.dat (genD K n L)] = ρ0 := rfl
    have sl := sh_len (rs := rs) g.h8 g.hn
    rw [e0, s_ret, e_fr, nLc_eq, i1, bnd_s, gd_t (by rw [List.length_map]; exact small_line (by omega)), c1, bnd_s, bnd_s, gd_t (show nolk (D.lst _) = true from rfl), List.map_id, filter_enc (fun c => decide (1 < (nstL rs L c).length)), bnd_s, bnd_s]
    show some (Sv.dat _, C.take C.length) = _
    rw [List.take_length]
    rfl
  let ρ0 : Env := [some (.dat (genD K n L))]
  have v0 : eVar 0 ρ0 C = some (.dat (genD K n L), C) := rfl
  unfold M_torn
  rw [runE_eq (by rfl)]
  unfold m_torn
  have e0 : startE 1 [Sv.dat (genD K n L)] = ρ0 := rfl
  rw [e0, s_ret, e_call, e_cons, e ρ0 0 rfl, bnd_s, e_cons, v0, bnd_s, e_nil, bnd_s, bnd_s, bnd_s, g2, t1, bnd_s, bnd_s]
  show some (Sv.dat _, C.take C.length) = _
  rw [List.take_length]
end DX

namespace DX
open PySem PySem.Spec L2
/-! ### rows in the order of their labels -/
theorem le_rows {a b : Meth} (h : PySem.W.dataLe false (fun p : Meth => toPy (encM p)) a b = true) : leS a.1 b.1 = true := by
  cases q : ltCps b.1.cps.toList a.1.cps.toList with
  | false =>
    unfold leS
    rw [q]
    rfl
  | true =>
    have e : ∀ p : Meth, PySem.W.keyToks (toPy (encM p)) = .inl 1 :: .inr p.1.cps.toList :: PySem.W.keyToksAll [toPy (encS p.2)] := fun _ => rfl
    have w : PyProof.Rows.lexLt PyProof.Rows.itemOrd (PySem.W.keyToks (toPy (encM b))) (PySem.W.keyToks (toPy (encM a))) = true := by
      rw [e, e, PyProof.Rows.lex_cons, PyProof.Rows.lex_cons]
      have h1 : PyProof.Rows.itemOrd.blt (.inl 1) (.inl 1) = false := by decide
      have h2 : PyProof.Rows.itemOrd.blt (.inr b.1.cps.toList) (.inr a.1.cps.toList) = true := by
        rw [PyProof.Rows.ltCps_eq] at q
        exact q
      rw [h1, h2]
      rfl
    have h' : (!PyProof.Rows.lexLt PyProof.Rows.itemOrd (PySem.W.keyToks (toPy (encM b))) (PySem.W.keyToks (toPy (encM a)))) = true := h
    rw [w] at h'
    cases h'
theorem rowD_g {p : Meth} (h1 : PyData.strOk p.1 = true) (h2 : ∀ x ∈ p.2, PyData.strOk x = true) : rowD (encM p) = true := by
  unfold rowD
  rw [Bool.and_eq_true]
  refine ⟨?_, ?_⟩
  · show (txts (p.2.map D.str)).isSome = true
    rw [txts_map]
    rfl
  · have q : okD 1 (encS p.2) = true := ok_S h2
    simp [encM, okD, okDs, h1, q]
theorem sort_g {F : List Meth} (hl : F.length ≤ 1000) (h1 : ∀ p ∈ F, PyData.strOk p.1 = true) (h2 : ∀ p ∈ F, ∀ x ∈ p.2, PyData.strOk x = true) : ∃ L : List Meth, L.Perm F ∧ dSort2 [.lst (F.map encM)] = some (.lst (L.map encM)) ∧ (L.map (·.1)).Pairwise (fun a b => leS a b = true) := by
  cases F with
  | nil =>
    refine ⟨[], List.Perm.refl _, ?_, List.Pairwise.nil⟩
    have q := sorted_d2 (xs := []) (by simp)
    have e : sortStr [] = [] := by
      unfold sortStr
      simp
    rw [e] at q
    exact q
  | cons p F =>
    have tl := PySem.W.sortLe_total (PyProof.Rows.listOrd PyProof.Rows.itemOrd) false fun p : Meth => PySem.W.keyToks (toPy (encM p))
    refine ⟨(p :: F).mergeSort (PySem.W.dataLe false fun p => toPy (encM p)), List.mergeSort_perm _ _, ?_, ?_⟩
    · have ht : txts ((p :: F).map encM) = none := rfl
      rw [sort2_lst, ht]
      have hall : ((p :: F).map encM).all rowD = true := by
        rw [List.all_eq_true]
        intro d hd
        obtain ⟨q, hq, rfl⟩ := List.mem_map.mp hd
        exact rowD_g (h1 q hq) (h2 q hq)
      have hlen : ((p :: F).map encM).length ≤ 1000 := by rw [List.length_map]; exact hl
      show gd _ _ = _
      rw [gd_t ⟨hall, hlen⟩]
      congr 2
      exact (List.map_mergeSort (r := PySem.W.dataLe false fun p => toPy (encM p)) (s := PySem.W.dataLe false toPy) (f := encM) (l := p :: F) (fun a _ b _ => rfl)).symm
    · rw [List.pairwise_map]
      refine (List.pairwise_mergeSort (le := PySem.W.dataLe false fun p : Meth => toPy (encM p)) tl.trans (fun a b => ?_) (p :: F)).imp fun {a b} h => le_rows h
      rcases tl.total a b with z | z
      · have z' : PySem.W.dataLe false (fun p : Meth => toPy (encM p)) a b = true := z
        rw [z']
        rfl
      · have z' : PySem.W.dataLe false (fun p : Meth => toPy (encM p)) b a = true := z
        rw [z', Bool.or_true]
/-! ### pairs of labels, pairs of rows -/
def joinL (x y : Str) : Str := x ++ "x" ++ y
def prL (a b : List Str) : List Str := a.flatMap fun x => b.map (joinL x)
def joinM (p q : Meth) : Meth := (joinL p.1 q.1, p.2 ++ q.2)
def prM (A B : List Meth) : List Meth := A.flatMap fun p => B.map (joinM p)
theorem join_inj : ∀ x ∈ mpool, ∀ y ∈ mpool, ∀ z ∈ mpool, ∀ w ∈ mpool, x ++ "x" ++ y = z ++ "x" ++ w → x = z ∧ y = w := by decide +kernel
theorem join_ok : ∀ x ∈ mpool, ∀ y ∈ mpool, PyData.strOk (x ++ "x" ++ y) = true := by decide +kernel
theorem join_len : ∀ x ∈ mpool, ∀ y ∈ mpool, (x ++ "x").length + y.length ≤ 8 := by decide +kernel
theorem join_len1 : ∀ x ∈ mpool, x.length + ("x" : Str).length ≤ 8 := by decide +kernel
theorem pool_word : ∀ x ∈ mpool, x ≠ ("none" : Str) ∧ x ≠ ("torn" : Str) := by decide +kernel
theorem fm_congr {α β : Type} {f g : α → List β} : ∀ {X : List α}, (∀ x ∈ X, f x = g x) → X.flatMap f = X.flatMap g
  | [], _ => rfl
  | x :: X, h => by rw [List.flatMap_cons, List.flatMap_cons, h x List.mem_cons_self, fm_congr fun y hy => h y (List.mem_cons_of_mem _ hy)]
theorem nd_flat {α β γ : Type} (f : α → β → γ) {B : List β} (hB : B.Nodup) : ∀ {A : List α}, A.Nodup → (∀ a ∈ A, ∀ b ∈ B, ∀ a' ∈ A, ∀ b' ∈ B, f a b = f a' b' → a = a' ∧ b = b') → (A.flatMap fun a => B.map (f a)).Nodup
  | [], _, _ => List.nodup_nil
  | a :: A, hA, h => by
    rw [List.nodup_cons] at hA
    rw [List.flatMap_cons, List.nodup_append]
    refine ⟨?_, nd_flat f hB hA.2 fun x hx b hb y hy c hc e => h x (List.mem_cons_of_mem _ hx) b hb y (List.mem_cons_of_mem _ hy) c hc e, ?_⟩
    · unfold List.Nodup
      rw [List.pairwise_map]
      refine List.Pairwise.imp_of_mem (fun {b c} hb hc hne e => hne ?_) hB
      exact (h a List.mem_cons_self b hb a List.mem_cons_self c hc e).2
    · intro u hu v hv e
      obtain ⟨b, hb, rfl⟩ := List.mem_map.mp hu
      obtain ⟨y, hy, hv⟩ := List.mem_flatMap.mp hv
      obtain ⟨c, hc, rfl⟩ := List.mem_map.mp hv
      have := (h a List.mem_cons_self b hb y (List.mem_cons_of_mem _ hy) c hc e).1
      exact hA.1 (this ▸ hy)
theorem prM_fst (A B : List Meth) : (prM A B).map (·.1) = prL (A.map (·.1)) (B.map (·.1)) := by
  unfold prM prL
  rw [List.map_flatMap, List.flatMap_map]
  refine fm_congr fun p hp => ?_
  rw [List.map_map, List.map_map]
  rfl
theorem prM_snd (A B : List Meth) : (prM A B).map (·.2) = (A.map (·.2)).flatMap fun s => (B.map (·.2)).map (s ++ ·) := by
  unfold prM
  rw [List.map_flatMap, List.flatMap_map]
  refine fm_congr fun p hp => ?_
  rw [List.map_map, List.map_map]
  rfl
theorem prM_mem {A B : List Meth} {m : Meth} : m ∈ prM A B ↔ ∃ p ∈ A, ∃ q ∈ B, m = joinM p q := by
  unfold prM
  constructor
  · intro h
    obtain ⟨p, hp, h⟩ := List.mem_flatMap.mp h
    obtain ⟨q, hq, rfl⟩ := List.mem_map.mp h
    exact ⟨p, hp, q, hq, rfl⟩
  · rintro ⟨p, hp, q, hq, rfl⟩
    exact List.mem_flatMap.mpr ⟨p, hp, List.mem_map.mpr ⟨q, hq, rfl⟩⟩
theorem prM_len (A B : List Meth) : (prM A B).length = A.length * B.length := by
  unfold prM
  induction A with
  | nil => simp
  | cons a A ih => rw [List.flatMap_cons, List.length_append, ih, List.length_map, List.length_cons, Nat.succ_mul, Nat.add_comm]
theorem prL_len (a b : List Str) : (prL a b).length = a.length * b.length := by
  unfold prL
  induction a with
  | nil => simp
  | cons x a ih => rw [List.flatMap_cons, List.length_append, ih, List.length_map, List.length_cons, Nat.succ_mul, Nat.add_comm]
theorem filter_prM {f g : Meth → Bool} {F : Meth → Bool} {B : List Meth} : ∀ {A : List Meth}, (∀ p ∈ A, ∀ q ∈ B, F (joinM p q) = (f p && g q)) → (prM A B).filter F = prM (A.filter f) (B.filter g)
  | [], _ => rfl
  | a :: A, h => by
    have ih := filter_prM (f := f) (g := g) (F := F) (B := B) (A := A) fun p hp q hq => h p (List.mem_cons_of_mem _ hp) q hq
    have e : (B.map (joinM a)).filter F = if f a = true then (B.filter g).map (joinM a) else [] := by
      rw [List.filter_map]
      by_cases z : f a = true
      · rw [if_pos z]
        congr 1
        refine List.filter_congr fun q hq => ?_
        show F (joinM a q) = g q
        rw [h a List.mem_cons_self q hq, z, Bool.true_and]
      · rw [if_neg z, List.filter_eq_nil_iff.mpr]
        · rfl
        · intro q hq
          show ¬ F (joinM a q) = true
          rw [h a List.mem_cons_self q hq, Bool.eq_false_iff.mpr z]
          simp
    unfold prM at ih ⊢
    rw [List.flatMap_cons, List.filter_append, ih, e, List.filter_cons]
    by_cases z : f a = true
    · rw [if_pos z, if_pos z, List.flatMap_cons]
    · rw [if_neg z, if_neg z, List.nil_append]
/-! ### what is under what, side by side -/
theorem und_app {rs : List Row} {l s r t : List Str} (h : l.length = s.length) : und rs (l ++ r) (s ++ t) = (und rs l s && und rs r t) := by
  rw [Bool.eq_iff_iff, Bool.and_eq_true, und_iff, und_iff, und_iff]
  constructor
  · intro u
    refine ⟨fun k x y h1 h2 => u k x y ?_ ?_, fun k x y h1 h2 => u (l.length + k) x y ?_ ?_⟩
    · rw [List.getElem?_append_left (List.getElem?_eq_some_iff.mp h1).1, h1]
    · rw [List.getElem?_append_left (List.getElem?_eq_some_iff.mp h2).1, h2]
    · rw [List.getElem?_append_right (by omega), Nat.add_sub_cancel_left, h1]
    · rw [h, List.getElem?_append_right (by omega), Nat.add_sub_cancel_left, h2]
  · rintro ⟨u1, u2⟩ k x y h1 h2
    by_cases z : k < l.length
    · rw [List.getElem?_append_left z] at h1
      rw [List.getElem?_append_left (by omega)] at h2
      exact u1 k x y h1 h2
    · rw [List.getElem?_append_right (by omega)] at h1
      rw [List.getElem?_append_right (by omega), ← h] at h2
      exact u2 _ x y h1 h2
theorem und_refl {rs : List Row} {n : Nat} {s : List Str} (h : Shp rs n s) : und rs s s = true := by
  rw [und_iff]
  intro k x y h1 h2
  rw [h1] at h2
  cases h2
  exact .self (h.2 x (List.mem_of_getElem? h1))
open Classical in
noncomputable def nstP (rs : List Row) (L : List Meth) (c s : List Str) : Bool := und rs c s && decide (¬ ∃ q ∈ L, q.2 ≠ s ∧ und rs q.2 s = true ∧ und rs c q.2 = true)
theorem nst_eq {rs : List Row} {n : Nat} {L : List Meth} (go : GOk rs n L) (c : List Str) : nstL rs L c = (L.filter fun p => nstP rs L c p.2).map (·.1) := by
  unfold nstL nstM
  congr 1
  refine List.filter_congr fun p hp => ?_
  unfold nstP
  congr 1
  rw [Bool.eq_iff_iff, decide_eq_true_iff, Bool.not_eq_true', ← Bool.not_eq_true]
  refine not_congr ?_
  rw [List.any_eq_true]
  constructor
  · rintro ⟨l, h1, h2⟩
    obtain ⟨q, hq, rfl⟩ := List.mem_map.mp h1
    obtain ⟨q1, q2⟩ := List.mem_filter.mp hq
    rw [Bool.and_eq_true] at q2
    have hl := of_decide_eq_true h2
    obtain ⟨q', h3, h4⟩ := List.mem_map.mp hl
    obtain ⟨h5, h6⟩ := List.mem_filter.mp h3
    have e := inj_fst go.nd h5 q1 h4
    rw [e] at h6
    refine ⟨q, q1, ?_, q2.2, h6⟩
    intro z
    rw [decide_eq_true z] at q2
    exact absurd q2.1 (by decide)
  · rintro ⟨q, q1, q2, q3, q4⟩
    refine ⟨q.1, List.mem_map.mpr ⟨q, List.mem_filter.mpr ⟨q1, ?_⟩, rfl⟩, decide_eq_true (List.mem_map.mpr ⟨q, List.mem_filter.mpr ⟨q1, q4⟩, rfl⟩)⟩
    rw [decide_eq_false q2, q3]
    rfl
/-! ### a great generic -/
structure Great (rs : List Row) (n1 n2 : Nat) (A B G : List Meth) : Prop where
  a : GOk rs n1 A
  b : GOk rs n2 B
  perm : G.Perm (prM A B)
  pw : (G.map (·.1)).Pairwise (fun a b => leS a b = true)
theorem great_filter {rs : List Row} {n1 n2 : Nat} {A B G : List Meth} (g : Great rs n1 n2 A B G) {F f h : Meth → Bool} (e : ∀ p ∈ A, ∀ q ∈ B, F (joinM p q) = (f p && h q)) :
    (G.filter F).map (·.1) = sortStr (prL ((A.filter f).map (·.1)) ((B.filter h).map (·.1))) := by
  refine sort_one ?_ ?_
  · rw [← prM_fst, ← filter_prM e]
    exact (g.perm.filter F).map _
  · exact List.Pairwise.sublist (List.Sublist.map _ List.filter_sublist) g.pw
theorem great_fit {rs : List Row} {n1 n2 : Nat} {A B G : List Meth} (g : Great rs n1 n2 A B G) {l r : List Str} (hl : Shp rs n1 l) (hr : Shp rs n2 r) : fitL rs G (l ++ r) = sortStr (prL (fitL rs A l) (fitL rs B r)) :=
  great_filter g (f := fun p => und rs l p.2) (h := fun q => und rs r q.2) fun p hp q hq => und_app (by rw [hl.1, (g.a.shp p hp).1])
theorem great_nst {rs : List Row} {n1 n2 n : Nat} {A B G : List Meth} (g : Great rs n1 n2 A B G) (go : GOk rs n G) {l r : List Str} (hl : Shp rs n1 l) (hr : Shp rs n2 r) : nstL rs G (l ++ r) = sortStr (prL (nstL rs A l) (nstL rs B r)) := by
  rw [nst_eq go, nst_eq g.a, nst_eq g.b]
  refine great_filter g (f := fun p => nstP rs A l p.2) (h := fun q => nstP rs B r q.2) fun p hp q hq => ?_
  have sp := g.a.shp p hp
  have sq := g.b.shp q hq
  show nstP rs G (l ++ r) (p.2 ++ q.2) = _
  unfold nstP
  rw [und_app (by rw [hl.1, sp.1])]
  rw [Bool.eq_iff_iff]
  simp only [Bool.and_eq_true, decide_eq_true_iff]
  constructor
  · rintro ⟨⟨u1, u2⟩, h⟩
    refine ⟨⟨u1, ?_⟩, u2, ?_⟩
    · rintro ⟨p', h1, h2, h3, h4⟩
      refine h ⟨joinM p' q, g.perm.mem_iff.mpr (prM_mem.mpr ⟨p', h1, q, hq, rfl⟩), fun e => h2 (List.append_inj e (by rw [sp.1, (g.a.shp p' h1).1])).1, ?_, ?_⟩
      · show und rs (p'.2 ++ q.2) _ = true
        rw [und_app (by rw [sp.1, (g.a.shp p' h1).1]), h3, und_refl sq]
        rfl
      · show und rs _ (p'.2 ++ q.2) = true
        rw [und_app (by rw [hl.1, (g.a.shp p' h1).1]), h4, u2]
        rfl
    · rintro ⟨q', h1, h2, h3, h4⟩
      refine h ⟨joinM p q', g.perm.mem_iff.mpr (prM_mem.mpr ⟨p, hp, q', h1, rfl⟩), fun e => h2 (List.append_inj e rfl).2, ?_, ?_⟩
      · show und rs (p.2 ++ q'.2) _ = true
        rw [und_app rfl, h3, und_refl sp]
        rfl
      · show und rs _ (p.2 ++ q'.2) = true
        rw [und_app (by rw [hl.1, sp.1]), h4, u1]
        rfl
  · rintro ⟨⟨u1, h1⟩, u2, h2⟩
    refine ⟨⟨u1, u2⟩, ?_⟩
    rintro ⟨m, m1, m2, m3, m4⟩
    obtain ⟨p', hp', q', hq', rfl⟩ := prM_mem.mp (g.perm.mem_iff.mp m1)
    have m3' : und rs (p'.2 ++ q'.2) (p.2 ++ q.2) = true := m3
    have m4' : und rs (l ++ r) (p'.2 ++ q'.2) = true := m4
    rw [und_app (by rw [sp.1, (g.a.shp p' hp').1]), Bool.and_eq_true] at m3'
    rw [und_app (by rw [hl.1, (g.a.shp p' hp').1]), Bool.and_eq_true] at m4'
    by_cases z : p'.2 = p.2
    · by_cases z2 : q'.2 = q.2
      · exact m2 (by show p'.2 ++ q'.2 = _; rw [z, z2])
      · exact h2 ⟨q', hq', z2, m3'.2, m4'.2⟩
    · exact h1 ⟨p', hp', z, m3'.1, m4'.1⟩
theorem great_ok {rs : List Row} {n1 n2 : Nat} {A B G : List Meth} (a : MOk rs n1 A) (b : MOk rs n2 B) (g : Great rs n1 n2 A B G) : GOk rs (n1 + n2) G where
  nd := by
    rw [(g.perm.map _).nodup_iff, prM_fst]
    refine nd_flat joinL b.nd a.nd fun x hx y hy z hz w hw e => ?_
    obtain ⟨p, hp, rfl⟩ := List.mem_map.mp hx
    obtain ⟨q, hq, rfl⟩ := List.mem_map.mp hy
    obtain ⟨p', hp', rfl⟩ := List.mem_map.mp hz
    obtain ⟨q', hq', rfl⟩ := List.mem_map.mp hw
    exact join_inj _ (a.sub p hp) _ (b.sub q hq) _ (a.sub p' hp') _ (b.sub q' hq') e
  ok := fun m hm => by
    obtain ⟨p, hp, q, hq, rfl⟩ := prM_mem.mp (g.perm.mem_iff.mp hm)
    exact join_ok _ (a.sub p hp) _ (b.sub q hq)
  shp := fun m hm => by
    obtain ⟨p, hp, q, hq, rfl⟩ := prM_mem.mp (g.perm.mem_iff.mp hm)
    refine ⟨?_, fun x hx => ?_⟩
    · show (p.2 ++ q.2).length = _
      rw [List.length_append, (a.shp p hp).1, (b.shp q hq).1]
    · rcases List.mem_append.mp hx with z | z
      · exact (a.shp p hp).2 x z
      · exact (b.shp q hq).2 x z
  snd := by
    rw [(g.perm.map _).nodup_iff, prM_snd]
    refine nd_flat (fun s t => s ++ t) b.snd a.snd fun x hx y hy z hz w hw e => ?_
    obtain ⟨p, hp, rfl⟩ := List.mem_map.mp hx
    obtain ⟨p', hp', rfl⟩ := List.mem_map.mp hz
    exact List.append_inj e (by rw [(a.shp p hp).1, (a.shp p' hp').1])
/-! ### the order of calls -/
theorem prodC_app : ∀ (cs ds : List (List Str)), prodC (cs ++ ds) = (prodC cs).flatMap fun l => (prodC ds).map (l ++ ·)
  | [], ds => by
    show prodC ds = ([[]] : List (List Str)).flatMap _
    simp
  | c :: cs, ds => by
    show (c.flatMap fun x => (prodC (cs ++ ds)).map (x :: ·)) = (c.flatMap fun x => (prodC cs).map (x :: ·)).flatMap _
    rw [prodC_app cs ds, List.flatMap_assoc]
    refine fm_congr fun x hx => ?_
    rw [List.map_flatMap, List.flatMap_map]
    refine fm_congr fun l hl => ?_
    rw [List.map_map]
    rfl
theorem sh_app (rs : List Row) (n1 n2 : Nat) : SHs rs (n1 + n2) = (SHs rs n1).flatMap fun l => (SHs rs n2).map (l ++ ·) := by
  unfold SHs
  rw [prod_eq, prod_eq, prod_eq, ← List.replicate_append_replicate, prodC_app]
theorem great_torn {rs : List Row} {n1 n2 n : Nat} {A B G : List Meth} (g : Great rs n1 n2 A B G) (go : GOk rs n G) :
    tornL rs G (n1 + n2) = (SHs rs n1).flatMap fun l => (SHs rs n2).flatMap fun r => if 1 < (nstL rs A l).length * (nstL rs B r).length then [l ++ r] else [] := by
  unfold tornL
  rw [sh_app, List.filter_flatMap]
  have e : ∀ (X : List (List Str)) (f f' : List Str → List (List Str)), (∀ x ∈ X, f x = f' x) → X.flatMap f = X.flatMap f' := fun X f f' h => fm_congr h
  refine e _ _ _ fun l hl => ?_
  have key : ∀ R : List (List Str), (∀ r ∈ R, Shp rs n2 r) → (R.map (l ++ ·)).filter (fun c => decide (1 < (nstL rs G c).length)) = R.flatMap fun r => if 1 < (nstL rs A l).length * (nstL rs B r).length then [l ++ r] else [] := by
    intro R hR
    induction R with
    | nil => rfl
    | cons r R ih =>
      rw [List.map_cons, List.filter_cons, List.flatMap_cons, ih fun x hx => hR x (List.mem_cons_of_mem _ hx)]
      have q : (nstL rs G (l ++ r)).length = (nstL rs A l).length * (nstL rs B r).length := by
        rw [great_nst g go (sh_shp hl) (hR r List.mem_cons_self), (sortStr_perm _).length_eq, prL_len]
      rw [q]
      by_cases z : 1 < (nstL rs A l).length * (nstL rs B r).length
      · rw [if_pos (decide_eq_true z), if_pos z]
        rfl
      · rw [if_neg (by simpa using z), if_neg z]
        rfl
  exact key _ fun r hr => sh_shp hr
end DX

namespace DX
open PySem PySem.Spec L2
theorem same_dc {n : Nat} {xs : List D} {m : Nat} {C : Store} (hc : C[m]? = some (.lst xs)) (hx : xs.length ≤ 1000 ∧ ∀ d ∈ xs, szD n d = true ∧ okD n d = true) : M_Lsame (n + 2) [.dat (.lst xs), .cel m] C = some (.dat (.bl true), C) := by
  let ρ : Env := [some (.dat (.lst xs)), some (.cel m), none, none]
  have st : stays C (keepOf C (.cel m)) = true := by
    simp [keepOf, hc, stays, sameD_rfl]
  have c1 : compL (keepOf C (.cel m)) (bSeq 2 (bCons (bName 2) (bCons (bName 3) bNil))) tYes' (eCall 2 (M_Lsame (n + 1)) (aCons (eVar 2) (aCons (eVar 3) aNil))) (wipeE ρ [2, 3]) (xs.map fun x => .tup [x, x]) C = some ((xs.map fun x => D.tup [x, x]).map (fun _ => .bl true), C) := by
    refine comp_map st fun z hz => ?_
    obtain ⟨y, hy, rfl⟩ := List.mem_map.mp hz
    have q := same_ok n y C (hx.2 y hy).1 (hx.2 y hy).2
    refine ⟨_, rfl, ?_⟩
    simp [ρ, wipeE, gd, q]
  have z1 : zipD xs xs = xs.map fun x => .tup [x, x] := by
    unfold zipD
    have go : ∀ l : List D, l.zipWith (fun x y => D.tup [x, y]) l = l.map fun x => .tup [x, x] := fun l => by
      induction l with
      | nil => rfl
      | cons x r ih => rw [List.zipWith_cons_cons, List.map_cons, ih]
    exact go xs
  have sc : see C (.cel m) = some (.lst xs) := by
    rw [see_c, hc]
    rfl
  have v0 : eVar 0 ρ C = some (.dat (.lst xs), C) := rfl
  have v1 : eVar 1 ρ C = some (.cel m, C) := rfl
  have i1 : iZp (aCons (eVar 0) (aCons (eVar 1) aNil)) ρ C = some (⟨xs.map fun x => .tup [x, x], keepOf C (.cel m)⟩, C) := by
    rw [← z1]
    unfold iZp
    rw [e_cons, v0, bnd_s, e_cons, v1, bnd_s, e_nil, bnd_s, bnd_s, bnd_s]
    dsimp only
    rw [sc, see_d, bn1_s, bn1_s]
    dsimp only
    rw [show keepOf C (.dat (.lst xs)) = [] from rfl, List.nil_append]
  have e1 : ((xs.map fun x => D.tup [x, x]).map fun _ => D.bl true) = List.replicate xs.length (.bl true) := by
    rw [List.map_map]
    exact List.map_const'
  have n1 : nLc (iZp (aCons (eVar 0) (aCons (eVar 1) aNil))) (bSeq 2 (bCons (bName 2) (bCons (bName 3) bNil))) tYes' (eCall 2 (M_Lsame (n + 1)) (aCons (eVar 2) (aCons (eVar 3) aNil))) [2, 3] ρ C = some (.lst (List.replicate xs.length (.bl true)), C) := by
    rw [nLc_eq, i1, bnd_s, gd_t (by rw [List.length_map]; exact small_line hx.1), c1, bnd_s, e1]
  have qb : ∀ b : Bool, dNe (.bl b) (.bl b) = some (.bl false) := fun b => by
    unfold dNe
    rw [gd_t ⟨shp_of (n := 1) rfl (by omega), shp_of (n := 1) rfl (by omega)⟩]
    simp [eqvD, toPy, PyData.eqv]
  have qi : dEq (.int (xs.length : Int)) (.int (xs.length : Int)) = some (.bl true) := eq_sc (.inr (.inr (.inl ⟨_, rfl⟩)))
  have all := all_true xs.length
  have fin2 : eB dAll (aCons (eFr (nLc (iZp (aCons (eVar 0) (aCons (eVar 1) aNil))) (bSeq 2 (bCons (bName 2) (bCons (bName 3) bNil))) tYes' (eCall 2 (M_Lsame (n + 1)) (aCons (eVar 2) (aCons (eVar 3) aNil))) [2, 3])) aNil) ρ C = some (.dat (.bl true), C) := by
    rw [e_b, e_cons, e_fr, n1, bnd_s, gd_t (show nolk (D.lst _) = true from rfl), bnd_s, e_nil, bnd_s, bnd_s]
    show bn1 (dAll [.lst _]) _ = _
    rw [all]
    rfl
  show runE 4 2 (m_Lsame (M_Lsame (n + 1))) [.dat (.lst xs), .cel m] C = _
  rw [runE_eq (by rfl)]
  unfold m_Lsame
  have e0 : startE 4 [Sv.dat (.lst xs), Sv.cel m] = ρ := rfl
  rw [e0, s_seq, s_if]
  have t1 : tTru (eIsi2 Ty.list Ty.tuple (eVar 1)) ρ C = some (true, C) := by
    unfold eIsi2
    rw [t_tru, v1, bnd_s, sc]
    rfl
  have isi : ∀ t : Ty, eIsi t (eVar 0) ρ C = eIsi t (eVar 1) ρ C := fun t => by
    unfold eIsi
    rw [v0, v1, bnd_s, bnd_s, sc, see_d]
  have t2 : tOr' (tB' (eBin dNe (eIsi Ty.list (eVar 0)) (eIsi Ty.list (eVar 1)))) (tB' (eBin dNe (eIsi Ty.tuple (eVar 0)) (eIsi Ty.tuple (eVar 1)))) ρ C = some (false, C) := by
    have w : ∀ t : Ty, ∀ b : Bool, isTy (.lst xs) t = some b → tB' (eBin dNe (eIsi t (eVar 0)) (eIsi t (eVar 1))) ρ C = some (false, C) := fun t b hb => by
      have ei : eIsi t (eVar 1) ρ C = some (.dat (.bl b), C) := by
        unfold eIsi
        rw [v1, bnd_s, sc, bn1_s, hb, bn1_s]
      rw [t_b, e_bin, isi t, ei, bnd_s, ei, bnd_s, see_d, bn1_s, bn1_s, qb, bn1_s, bnd_s]
    rw [t_or, w Ty.list true rfl, bnd_s, if_neg Bool.false_ne_true, w Ty.tuple false rfl]
  have l1 : eBin dEq (eB dLen (aCons (eVar 0) aNil)) (eB dLen (aCons (eVar 1) aNil)) ρ C = some (.dat (.bl true), C) := by
    have a0 : eB dLen (aCons (eVar 0) aNil) ρ C = some (.dat (.int (xs.length : Int)), C) := rfl
    have a1 : eB dLen (aCons (eVar 1) aNil) ρ C = some (.dat (.int (xs.length : Int)), C) := by
      rw [e_b, e_cons, v1, bnd_s, e_nil, bnd_s, bnd_s]
      show bn1 (bn1 (see C (.cel m)) fun d => bn1 (sees C []) fun ds => some (d :: ds)) _ = _
      rw [sc]
      rfl
    rw [e_bin, a0, bnd_s, a1, bnd_s, see_d, bn1_s, bn1_s, qi, bn1_s]
  rw [t1, bnd_s, if_pos rfl, s_seq, s_if, t2, bnd_s, if_neg Bool.false_ne_true, s_nil, bnd_s]
  dsimp only
  have r1 : eAndV (eBin dEq (eB dLen (aCons (eVar 0) aNil)) (eB dLen (aCons (eVar 1) aNil))) (eB dAll (aCons (eFr (nLc (iZp (aCons (eVar 0) (aCons (eVar 1) aNil))) (bSeq 2 (bCons (bName 2) (bCons (bName 3) bNil))) tYes' (eCall 2 (M_Lsame (n + 1)) (aCons (eVar 2) (aCons (eVar 3) aNil))) [2, 3])) aNil)) ρ C = some (.dat (.bl true), C) := by
    unfold eAndV
    rw [l1, bnd_s]
    exact fin2
  rw [s_ret, r1, bnd_s, bnd_s]
  simp [fin]
theorem set_last2 {C : Store} {x y : D} : (C ++ [x]).set C.length y = C ++ [y] := set_last
theorem app_last {ρ : Env} {X : Store} {xs : List D} {i : Nat} {E : SE} {z : D} (v : eVar i ρ (X ++ [.lst xs]) = some (.cel X.length, X ++ [.lst xs])) (w : E ρ (X ++ [.lst xs]) = some (.dat z, X ++ [.lst xs])) (hl : xs.length < 1000) :
    sDrop (eApp (eVar i) E) ρ (X ++ [.lst xs]) = some (.nx ρ, X ++ [.lst (xs ++ [z])]) := by
  have q : lstAt (X ++ [.lst xs]) (.cel X.length) = some (X.length, xs) := by
    unfold lstAt
    dsimp only
    rw [show (X ++ [D.lst xs])[X.length]? = some (D.lst xs) from List.getElem?_concat_length]
  have hz : xs.length < sizeLine := Nat.lt_of_lt_of_le hl (small_line (Nat.le_refl _))
  have e : eApp (eVar i) E ρ (X ++ [.lst xs]) = some (.dat .non, X ++ [.lst (xs ++ [z])]) := by
    unfold eApp
    rw [v, bnd_s, q, bn1_s, w, bnd_s, q, bn1_s, dat_d, bn1_s, gd_t hz]
    show some (Sv.dat D.non, (X ++ [D.lst xs]).set X.length (.lst (xs ++ [z]))) = _
    rw [set_last]
  rw [s_drop, e, bnd_s]
theorem eq_strs {x y : Str} (hx : PyData.strOk x = true) (hy : PyData.strOk y = true) : dEq (.str x) (.str y) = some (.bl (decide (x = y))) := by
  have s1 : shp (.str x) = true := shp_of (n := 1) hx (by omega)
  have s2 : shp (.str y) = true := shp_of (n := 1) hy (by omega)
  unfold dEq
  rw [gd_t ⟨s1, s2⟩]
  congr 2
variable {rs : List Row} {K : D} {items : List D} {n : Nat} {L : List Meth} {C : Store}
theorem Lcalls_ok (h8 : rs.length ≤ 8) (hK : IsK K rs items) (hn : n ≤ 3) : M_Lcalls [.dat (genD K n L)] C = some (.dat (encSs (SHs rs n)), C) := by
  let ρ0 : Env := [some (.dat (genD K n L))]
  have a0 : eBin dIx (eVar 0) (eC (.int 0)) ρ0 C = some (.dat K, C) := rfl
  have a1 : eBin dIx (eVar 0) (eC (.int 1)) ρ0 C = some (.dat (.int n), C) := rfl
  unfold M_Lcalls
  rw [runE_eq (by rfl)]
  unfold m_Lcalls
  have e0 : startE 1 [Sv.dat (genD K n L)] = ρ0 := rfl
  have q : eFr (nCall 2 M_Lshapes (aCons (eBin dIx (eVar 0) (eC (.int 0))) (aCons (eBin dIx (eVar 0) (eC (.int 1))) aNil))) ρ0 C = some (.dat (encSs (SHs rs n)), C) := by
    rw [e_fr]
    unfold nCall
    rw [e_cons, a0, bnd_s, e_cons, a1, bnd_s, e_nil, bnd_s, bnd_s, bnd_s, g2, Lshapes_new h8 hK hn, bnd_s, gd_t (show nolk (encSs _) = true from rfl)]
  rw [e0, s_ret, q, bnd_s, bnd_s]
  show some (Sv.dat _, C.take C.length) = _
  rw [List.take_length]
/-! ### labels joined -/
def inP (a : List Str) : Prop := ∀ x ∈ a, x ∈ mpool
theorem join_e {f g : SE} {ρ : Env} {x y : Str} (hx : x ∈ mpool) (hy : y ∈ mpool) (hf : f ρ C = some (.dat (.str x), C)) (hg : g ρ C = some (.dat (.str y), C)) :
    eBin dAdd (eBin dAdd f (eC (.str "x"))) g ρ C = some (.dat (.str (joinL x y)), C) := by
  have l1 := join_len1 x hx
  have l2 := join_len x hx y hy
  have d1 : dAdd (.str x) (.str "x") = some (.str (x ++ "x")) := by
    show gd _ _ = _
    rw [gd_t (small_line (by omega))]
  have d2 : dAdd (.str (x ++ "x")) (.str y) = some (.str (x ++ "x" ++ y)) := by
    show gd _ _ = _
    rw [gd_t (small_line (by omega))]
  rw [e_bin, e_bin, hf, bnd_s, e_c, bnd_s, see_d, bn1_s, see_d, bn1_s, d1, bn1_s, bnd_s, hg, bnd_s, see_d, bn1_s, see_d, bn1_s, d2, bn1_s]
  rfl
def jEnv (a b acc : List Str) (o3 : Option Sv) : Env := [some (.dat (encL a)), some (.dat (encL b)), some (.dat (encL acc)), o3, none]
theorem Ljoined_ok {a b : List Str} (ha : inP a) (hb : inP b) (la : a.length ≤ 7) (lb : b.length ≤ 7) : M_Ljoined [.dat (encL a), .dat (encL b)] C = some (.dat (encL (sortStr (prL a b))), C) := by
  let body : SS := sSet 2 (eBin dAdd (eVar 2) (eFr (nLc (iSq (eVar 1)) (bName 4) tYes' (eBin dAdd (eBin dAdd (eVar 3) (eC (.str "x"))) (eVar 4)) [4])))
  let I : Nat → Env → Store → Prop := fun i ρ C' => ∃ o3, ρ = jEnv a b (prL (a.take i) b) o3 ∧ C' = C
  obtain ⟨ρ', C', e, o3, hρ, hC⟩ := for_inv (cels := []) (b := bName 3) (body := body) (items := a.map D.str) (I := I) (ρ := jEnv a b [] none) (C := C) ⟨none, by simp [prL], rfl⟩ (by
    intro i d ρ C' hd ⟨o3, hρ, hC⟩
    subst hρ
    subst hC
    rw [List.getElem?_map] at hd
    cases hx : a[i]? with
    | none => rw [hx] at hd; cases hd
    | some x =>
      rw [hx] at hd
      cases hd
      have hxm := List.mem_of_getElem? hx
      have hi : i < a.length := (List.getElem?_eq_some_iff.mp hx).1
      let ρ1 := jEnv a b (prL (a.take i) b) (some (.dat (.str x)))
      have i1 : iSq (eVar 1) ρ1 C' = some (⟨b.map D.str, []⟩, C') := rfl
      have c1 : compL [] (bName 4) tYes' (eBin dAdd (eBin dAdd (eVar 3) (eC (.str "x"))) (eVar 4)) (wipeE ρ1 [4]) (b.map D.str) C' = some ((b.map D.str).map fun d => D.str (joinL x (undS d)), C') := by
        refine comp_map rfl fun d hd => ?_
        obtain ⟨y, hy, rfl⟩ := List.mem_map.mp hd
        exact ⟨[some (.dat (encL a)), some (.dat (encL b)), some (.dat (encL (prL (a.take i) b))), some (.dat (.str x)), some (.dat (.str y))], rfl, join_e (ha x hxm) (hb y hy) rfl rfl⟩
      have e1 : eFr (nLc (iSq (eVar 1)) (bName 4) tYes' (eBin dAdd (eBin dAdd (eVar 3) (eC (.str "x"))) (eVar 4)) [4]) ρ1 C' = some (.dat (encL (b.map (joinL x))), C') := by
        rw [e_fr, nLc_eq, i1, bnd_s, gd_t (by rw [List.length_map]; exact small_line (by omega)), c1, bnd_s, bnd_s, gd_t (show nolk (D.lst _) = true from rfl)]
        unfold encL
        rw [List.map_map, List.map_map]
        rfl
      have v2 : eVar 2 ρ1 C' = some (.dat (encL (prL (a.take i) b)), C') := rfl
      have q : dAdd (encL (prL (a.take i) b)) (encL (b.map (joinL x))) = some (encL (prL (a.take i) b ++ b.map (joinL x))) := by
        show gd _ _ = _
        have hz : ((prL (a.take i) b).map D.str).length + ((b.map (joinL x)).map D.str).length ≤ sizeLine := by
          rw [List.length_map, List.length_map, List.length_map, prL_len, List.length_take]
          have : min i a.length * b.length ≤ 7 * 7 := Nat.mul_le_mul (by omega) lb
          exact small_line (by omega)
        rw [gd_t hz, ← List.map_append]
        rfl
      refine ⟨rfl, ρ1, jEnv a b (prL (a.take i) b ++ b.map (joinL x)) (some (.dat (.str x))), C', rfl, ?_, some (.dat (.str x)), ?_, rfl⟩
      · show sSet 2 _ ρ1 C' = _
        rw [s_set, e_bin, v2, bnd_s, e1, bnd_s, see_d, bn1_s, see_d, bn1_s, q, bn1_s, bnd_s]
        rfl
      · rw [List.take_add_one, hx]
        unfold prL
        rw [List.flatMap_append]
        simp) (fun _ _ _ => rfl)
  rw [List.length_map, List.take_length] at hρ
  subst hρ
  subst hC
  unfold M_Ljoined
  rw [runE_eq (by rfl)]
  unfold m_Ljoined
  let ρ0 : Env := [some (.dat (encL a)), some (.dat (encL b)), none, none, none]
  have e0 : startE 5 [Sv.dat (encL a), Sv.dat (encL b)] = ρ0 := rfl
  have a1 : sSet 2 (eFr (nLst aNil)) ρ0 C' = some (.nx (jEnv a b [] none), C') := rfl
  have a2 : sFor (iSq (eVar 0)) (bName 3) body (jEnv a b [] none) C' = some (.nx (jEnv a b (prL a b) o3), C') := by
    have q : iSq (eVar 0) (jEnv a b [] none) C' = some (⟨a.map D.str, []⟩, C') := rfl
    unfold sFor
    rw [q, bnd_s]
    exact e
  rw [e0, s_seq, a1, bnd_s]
  dsimp only
  rw [s_seq, a2, bnd_s]
  dsimp only
  have lz : (prL a b).length < 64 := by
    rw [prL_len]
    have : a.length * b.length ≤ 7 * 7 := Nat.mul_le_mul la lb
    omega
  have a3 : eFr (nB dSort2 (aCons (eVar 2) aNil)) (jEnv a b (prL a b) o3) C' = some (.dat (encL (sortStr (prL a b))), C') := by
    have v2 : eVar 2 (jEnv a b (prL a b) o3) C' = some (.dat (encL (prL a b)), C') := rfl
    rw [e_fr, e_nb, e_cons, v2, bnd_s, e_nil, bnd_s, bnd_s]
    show bnd (bn1 (dSort2 [.lst ((prL a b).map D.str)]) _) _ = _
    rw [sorted_d2 lz, bn1_s, bnd_s, gd_t (show nolk (D.lst _) = true from rfl)]
    rfl
  rw [s_ret, a3, bnd_s, bnd_s]
  show some (Sv.dat _, C'.take C'.length) = _
  rw [List.take_length]
/-! ### words joined -/
def wd (u v : Str) : Str := if u = "none" ∨ v = "none" then "none" else if u = "torn" ∨ v = "torn" then "torn" else joinL u v
theorem none_ok : PyData.strOk ("none" : Str) = true := by decide +kernel
theorem torn_okS : PyData.strOk ("torn" : Str) = true := by decide +kernel
def wordy (u : Str) : Prop := u = "none" ∨ u = "torn" ∨ u ∈ mpool
theorem wordy.ok {u : Str} (h : wordy u) : PyData.strOk u = true := by
  rcases h with rfl | rfl | h
  · exact none_ok
  · exact torn_okS
  · exact strok_mpool u h
theorem or_eq {u v w : Str} {i j : Nat} {ρ : Env} (hu : PyData.strOk u = true) (hv : PyData.strOk v = true) (hw : PyData.strOk w = true) (e1 : eVar i ρ C = some (.dat (.str u), C)) (e2 : eVar j ρ C = some (.dat (.str v), C)) :
    tOr' (tB' (eBin dEq (eVar i) (eC (.str w)))) (tB' (eBin dEq (eVar j) (eC (.str w)))) ρ C = some (decide (u = w ∨ v = w), C) := by
  rw [t_or, t_b, e_bin, e1, bnd_s, e_c, bnd_s, see_d, bn1_s, see_d, bn1_s, eq_strs hu hw, bn1_s, bnd_s]
  show bnd (some (decide (u = w), C)) _ = _
  rw [bnd_s]
  by_cases z : u = w
  · rw [decide_eq_true z, if_pos rfl, decide_eq_true (Or.inl z)]
  · rw [decide_eq_false z, if_neg (by decide), t_b, e_bin, e2, bnd_s, e_c, bnd_s, see_d, bn1_s, see_d, bn1_s, eq_strs hv hw, bn1_s, bnd_s]
    show some (decide (v = w), C) = _
    congr 2
    rw [decide_eq_decide]
    exact ⟨Or.inr, fun h => h.resolve_left z⟩
theorem Lword_ok {u v : Str} (hu : wordy u) (hv : wordy v) : M_Lword [.dat (.str u), .dat (.str v)] C = some (.dat (.str (wd u v)), C) := by
  let ρ0 : Env := [some (.dat (.str u)), some (.dat (.str v))]
  have t1 := or_eq (C := C) (ρ := ρ0) (i := 0) (j := 1) hu.ok hv.ok none_ok rfl rfl
  have t2 := or_eq (C := C) (ρ := ρ0) (i := 0) (j := 1) hu.ok hv.ok torn_okS rfl rfl
  have main : m_Lword ρ0 C = some (.rt (.dat (.str (wd u v))), C) := by
    unfold m_Lword wd
    rw [s_seq, s_if, t1, bnd_s]
    by_cases z : u = "none" ∨ v = "none"
    · rw [decide_eq_true z, if_pos rfl, if_pos z]
      rfl
    · rw [decide_eq_false z, if_neg (by decide), if_neg z, s_nil, bnd_s]
      dsimp only
      rw [s_ret, e_if, t2, bnd_s]
      by_cases z2 : u = "torn" ∨ v = "torn"
      · rw [decide_eq_true z2, if_pos rfl, if_pos z2]
        rfl
      · rw [decide_eq_false z2, if_neg (by decide), if_neg z2]
        have mu : u ∈ mpool := by
          rcases hu with h | h | h
          · exact absurd (Or.inl h) z
          · exact absurd (Or.inl h) z2
          · exact h
        have mv : v ∈ mpool := by
          rcases hv with h | h | h
          · exact absurd (Or.inr h) z
          · exact absurd (Or.inr h) z2
          · exact h
        rw [join_e mu mv rfl rfl, bnd_s]
  unfold M_Lword
  rw [runE_eq (by rfl)]
  have e0 : startE 2 [Sv.dat (.str u), Sv.dat (.str v)] = ρ0 := rfl
  rw [e0, main, bnd_s]
  show some (Sv.dat _, C.take C.length) = _
  rw [List.take_length]
theorem word_wordy : ∀ {a : List Str}, inP a → wordy (wordOf a)
  | [], _ => .inl rfl
  | [x], h => .inr (.inr (h x (List.mem_singleton.mpr rfl)))
  | _ :: _ :: _, _ => .inr (.inl rfl)
theorem word_0 {a : List Str} (h : a.length = 0) : wordOf a = "none" := by
  rw [List.length_eq_zero_iff.mp h]
  rfl
theorem word_2 : ∀ {a : List Str}, 1 < a.length → wordOf a = "torn"
  | [], h => absurd h (by simp)
  | [_], h => absurd h (by simp)
  | _ :: _ :: _, _ => rfl
theorem none_torn : ("none" : Str) ≠ "torn" ∧ ("torn" : Str) ≠ "none" := by decide +kernel
theorem word_join {a b : List Str} (ha : inP a) (hb : inP b) : wd (wordOf a) (wordOf b) = wordOf (sortStr (prL a b)) := by
  have len : (sortStr (prL a b)).length = a.length * b.length := by rw [(sortStr_perm _).length_eq, prL_len]
  have nn := none_torn
  match a, b, ha, hb, len with
  | [], b, ha, hb, len =>
    rw [word_0 (a := sortStr _) (by rw [len]; simp)]
    exact if_pos (Or.inl rfl)
  | x :: a, [], ha, hb, len =>
    rw [word_0 (a := sortStr _) (by rw [len]; simp)]
    exact if_pos (Or.inr rfl)
  | [x], [y], ha, hb, len =>
    have px := pool_word x (ha x (List.mem_singleton.mpr rfl))
    have py := pool_word y (hb y (List.mem_singleton.mpr rfl))
    have e : sortStr (prL [x] [y]) = [joinL x y] := by
      show sortStr [joinL x y] = _
      unfold sortStr
      simp
    rw [e]
    show wd x y = joinL x y
    unfold wd
    rw [if_neg (by simp [px.1, py.1]), if_neg (by simp [px.2, py.2])]
  | x :: z :: a, y :: b, ha, hb, len =>
    rw [word_2 (a := sortStr _) (by rw [len, List.length_cons, List.length_cons, List.length_cons, Nat.mul_succ]; omega)]
    show wd "torn" (wordOf (y :: b)) = _
    have w : wordOf (y :: b) ≠ "none" := by
      cases b with
      | nil => exact (pool_word y (hb y (List.mem_singleton.mpr rfl))).1
      | cons _ _ => exact nn.2
    unfold wd
    rw [if_neg (fun h => h.elim nn.2 w), if_pos (Or.inl rfl)]
  | [x], y :: z :: b, ha, hb, len =>
    rw [word_2 (a := sortStr _) (by rw [len]; simp)]
    have px := pool_word x (ha x (List.mem_singleton.mpr rfl))
    show wd x "torn" = _
    unfold wd
    rw [if_neg (fun h => h.elim px.1 nn.2), if_pos (Or.inr rfl)]
theorem word_torn {a b : List Str} (ha : inP a) (hb : inP b) : wordOf (sortStr (prL a b)) = "torn" ↔ 1 < a.length * b.length := by
  have len : (sortStr (prL a b)).length = a.length * b.length := by rw [(sortStr_perm _).length_eq, prL_len]
  constructor
  · intro h
    rw [← word_join ha hb] at h
    rw [← len]
    cases q : sortStr (prL a b) with
    | nil =>
      rw [word_join ha hb, q] at h
      exact absurd h none_torn.1
    | cons x r =>
      cases r with
      | nil =>
        rw [word_join ha hb, q] at h
        have h' : x = "torn" := h
        have hm : x ∈ prL a b := (sortStr_perm (prL a b)).mem_iff.mp (by rw [q]; exact List.mem_singleton.mpr rfl)
        obtain ⟨u, hu, hm⟩ := List.mem_flatMap.mp hm
        obtain ⟨v, hv, rfl⟩ := List.mem_map.mp hm
        have jt : ∀ x ∈ mpool, ∀ y ∈ mpool, x ++ "x" ++ y ≠ ("torn" : Str) := by decide +kernel
        exact absurd h' (jt u (ha u hu) v (hb v hv))
      | cons y r => simp
  · intro h
    exact word_2 (by rw [len]; exact h)
end DX

namespace DX
open PySem PySem.Spec L2
variable {rs : List Row} {K : D} {items : List D} {n n1 n2 : Nat} {L A B : List Meth} {C : Store}
def gEnv (one other : D) (acc : List Meth) (o3 o4 : Option Sv) : Env := [some (.dat one), some (.dat other), some (.dat (.lst (acc.map encM))), o3, o4, none]
theorem Lgreat_ok (k : KOk rs) (a : MOk rs n1 A) (b : MOk rs n2 B) (hn : n1 + n2 ≤ 3) (la : A.length ≤ 7) (lb : B.length ≤ 7) :
    ∃ G, Great rs n1 n2 A B G ∧ M_Lgreat [.dat (genD K n1 A), .dat (genD K n2 B)] C = some (.dat (genD K (n1 + n2) G), C) := by
  have ok1 : ∀ m ∈ prM A B, PyData.strOk m.1 = true := fun m hm => by
    obtain ⟨p, hp, q, hq, rfl⟩ := prM_mem.mp hm
    exact join_ok _ (a.sub p hp) _ (b.sub q hq)
  have ok2 : ∀ m ∈ prM A B, ∀ x ∈ m.2, PyData.strOk x = true := fun m hm x hx => by
    obtain ⟨p, hp, q, hq, rfl⟩ := prM_mem.mp hm
    rcases List.mem_append.mp hx with z | z
    · exact (a.shp p hp).ok k x z
    · exact (b.shp q hq).ok k x z
  have lm : ∀ i, min i A.length * B.length ≤ 7 * 7 := fun i => Nat.mul_le_mul (by omega) lb
  have lp : (prM A B).length ≤ 49 := by
    rw [prM_len]
    exact Nat.mul_le_mul la lb
  obtain ⟨G, g1', g2', g3'⟩ := sort_g (F := prM A B) (by omega) ok1 ok2
  refine ⟨G, ⟨a.g, b.g, g1', g3'⟩, ?_⟩
  let one := genD K n1 A
  let other := genD K n2 B
  let body : SS := sSet 2 (eBin dAdd (eVar 2) (eFr (nLc (iSq (eBin dIx (eVar 1) (eC (.int 2)))) (bName 5) tYes' (eTup (aCons (eBin dAdd (eBin dAdd (eVar 3) (eC (.str "x"))) (eBin dIx (eVar 5) (eC (.int 0)))) (aCons (eBin dAdd (eVar 4) (eBin dIx (eVar 5) (eC (.int 1)))) aNil))) [5])))
  let I : Nat → Env → Store → Prop := fun i ρ C' => ∃ o3 o4, ρ = gEnv one other (prM (A.take i) B) o3 o4 ∧ C' = C
  obtain ⟨ρ', C', e, o3, o4, hρ, hC⟩ := for_inv (cels := []) (b := bSeq 2 (bCons (bName 3) (bCons (bName 4) bNil))) (body := body) (items := A.map encM) (I := I) (ρ := gEnv one other [] none none) (C := C) ⟨none, none, by simp [prM], rfl⟩ (by
    intro i d ρ C' hd ⟨o3, o4, hρ, hC⟩
    subst hρ
    subst hC
    rw [List.getElem?_map] at hd
    cases hx : A[i]? with
    | none => rw [hx] at hd; cases hd
    | some p =>
      rw [hx] at hd
      cases hd
      have hxm := List.mem_of_getElem? hx
      let ρ1 := gEnv one other (prM (A.take i) B) (some (.dat (.str p.1))) (some (.dat (encS p.2)))
      have i0 : eBin dIx (eVar 1) (eC (.int 2)) ρ1 C' = some (.dat (.tup (B.map encM)), C') := rfl
      have i1 : iSq (eBin dIx (eVar 1) (eC (.int 2))) ρ1 C' = some (⟨B.map encM, []⟩, C') := by
        rw [iSq_eq, i0, bnd_s]
        rfl
      have c1 : compL [] (bName 5) tYes' (eTup (aCons (eBin dAdd (eBin dAdd (eVar 3) (eC (.str "x"))) (eBin dIx (eVar 5) (eC (.int 0)))) (aCons (eBin dAdd (eVar 4) (eBin dIx (eVar 5) (eC (.int 1)))) aNil))) (wipeE ρ1 [5]) (B.map encM) C' = some ((B.map encM).map fun d => encM (joinM p ((undS (fstD d)), sndS d)), C') := by
        refine comp_map rfl fun d hd => ?_
        obtain ⟨q, hq, rfl⟩ := List.mem_map.mp hd
        let ρ2 : Env := [some (.dat one), some (.dat other), some (.dat (.lst ((prM (A.take i) B).map encM))), some (.dat (.str p.1)), some (.dat (encS p.2)), some (.dat (encM q))]
        refine ⟨ρ2, rfl, ?_⟩
        have x0 : eBin dIx (eVar 5) (eC (.int 0)) ρ2 C' = some (.dat (.str q.1), C') := rfl
        have x1 : eBin dIx (eVar 5) (eC (.int 1)) ρ2 C' = some (.dat (encS q.2), C') := rfl
        have v4 : eVar 4 ρ2 C' = some (.dat (encS p.2), C') := rfl
        have j := join_e (C := C') (ρ := ρ2) (f := eVar 3) (g := eBin dIx (eVar 5) (eC (.int 0))) (a.sub p hxm) (b.sub q hq) rfl x0
        have d1 : dAdd (encS p.2) (encS q.2) = some (encS (p.2 ++ q.2)) := by
          show gd _ _ = _
          rw [gd_t (by rw [List.length_map, List.length_map, (a.shp p hxm).1, (b.shp q hq).1]; exact small_line (by omega)), ← List.map_append]
          rfl
        rw [e_tup, e_cons, j, bnd_s, e_cons, e_bin, v4, bnd_s, x1, bnd_s, see_d, bn1_s, see_d, bn1_s, d1, bn1_s, bnd_s, e_nil, bnd_s, bnd_s, bnd_s]
        show gd (([.str (joinL p.1 q.1), encS (p.2 ++ q.2)] : List D).length ≤ 1000) _ = _
        rw [gd_t (by show (2 : Nat) ≤ 1000; omega), snd_enc]
        rfl
      have e1 : eFr (nLc (iSq (eBin dIx (eVar 1) (eC (.int 2)))) (bName 5) tYes' (eTup (aCons (eBin dAdd (eBin dAdd (eVar 3) (eC (.str "x"))) (eBin dIx (eVar 5) (eC (.int 0)))) (aCons (eBin dAdd (eVar 4) (eBin dIx (eVar 5) (eC (.int 1)))) aNil))) [5]) ρ1 C' = some (.dat (.lst ((B.map (joinM p)).map encM)), C') := by
        rw [e_fr, nLc_eq, i1, bnd_s, gd_t (by rw [List.length_map]; exact small_line (by omega)), c1, bnd_s, bnd_s, gd_t (show nolk (D.lst _) = true from rfl)]
        congr 4
        rw [List.map_map, List.map_map]
        refine List.map_congr_left fun q hq => ?_
        show encM (joinM p (undS (fstD (encM q)), sndS (encM q))) = encM (joinM p q)
        rw [snd_enc]
        rfl
      have v2 : eVar 2 ρ1 C' = some (.dat (.lst ((prM (A.take i) B).map encM)), C') := rfl
      have q : dAdd (.lst ((prM (A.take i) B).map encM)) (.lst ((B.map (joinM p)).map encM)) = some (.lst ((prM (A.take i) B ++ B.map (joinM p)).map encM)) := by
        show gd _ _ = _
        have hz : ((prM (A.take i) B).map encM).length + ((B.map (joinM p)).map encM).length ≤ sizeLine := by
          rw [List.length_map, List.length_map, List.length_map, prM_len, List.length_take]
          have := lm i
          exact small_line (by omega)
        rw [gd_t hz, ← List.map_append]
      refine ⟨rfl, ρ1, gEnv one other (prM (A.take i) B ++ B.map (joinM p)) (some (.dat (.str p.1))) (some (.dat (encS p.2))), C', rfl, ?_, some (.dat (.str p.1)), some (.dat (encS p.2)), ?_, rfl⟩
      · show sSet 2 _ ρ1 C' = _
        rw [s_set, e_bin, v2, bnd_s, e1, bnd_s, see_d, bn1_s, see_d, bn1_s, q, bn1_s, bnd_s]
        rfl
      · rw [List.take_add_one, hx]
        unfold prM
        rw [List.flatMap_append]
        simp) (fun _ _ _ => rfl)
  rw [List.length_map, List.take_length] at hρ
  subst hρ
  subst hC
  unfold M_Lgreat
  rw [runE_eq (by rfl)]
  unfold m_Lgreat
  let ρ0 : Env := [some (.dat one), some (.dat other), none, none, none, none]
  have e0 : startE 6 [Sv.dat (genD K n1 A), Sv.dat (genD K n2 B)] = ρ0 := rfl
  have a1 : sSet 2 (eFr (nLst aNil)) ρ0 C' = some (.nx (gEnv one other [] none none), C') := rfl
  have a2 : sFor (iSq (eBin dIx (eVar 0) (eC (.int 2)))) (bSeq 2 (bCons (bName 3) (bCons (bName 4) bNil))) body (gEnv one other [] none none) C' = some (.nx (gEnv one other (prM A B) o3 o4), C') := by
    have i0 : eBin dIx (eVar 0) (eC (.int 2)) (gEnv one other [] none none) C' = some (.dat (.tup (A.map encM)), C') := rfl
    have q : iSq (eBin dIx (eVar 0) (eC (.int 2))) (gEnv one other [] none none) C' = some (⟨A.map encM, []⟩, C') := by
      rw [iSq_eq, i0, bnd_s]
      rfl
    unfold sFor
    rw [q, bnd_s]
    exact e
  rw [e0, s_seq, a1, bnd_s]
  dsimp only
  rw [s_seq, a2, bnd_s]
  dsimp only
  let ρ3 := gEnv one other (prM A B) o3 o4
  have x0 : eBin dIx (eVar 0) (eC (.int 0)) ρ3 C' = some (.dat K, C') := rfl
  have x1 : eBin dAdd (eBin dIx (eVar 0) (eC (.int 1))) (eBin dIx (eVar 1) (eC (.int 1))) ρ3 C' = some (.dat (.int ((n1 + n2 : Nat) : Int)), C') := by
    rw [Int.natCast_add]
    rfl
  have a3 : eFr (nB dSort2 (aCons (eVar 2) aNil)) ρ3 C' = some (.dat (.lst (G.map encM)), C') := by
    have v2 : eVar 2 ρ3 C' = some (.dat (.lst ((prM A B).map encM)), C') := rfl
    rw [e_fr, e_nb, e_cons, v2, bnd_s, e_nil, bnd_s, bnd_s]
    show bnd (bn1 (dSort2 [.lst ((prM A B).map encM)]) _) _ = _
    rw [g2', bn1_s, bnd_s, gd_t (show nolk (D.lst _) = true from rfl)]
  have x2 : eB dTuple (aCons (eFr (nB dSort2 (aCons (eVar 2) aNil))) aNil) ρ3 C' = some (.dat (.tup (G.map encM)), C') := by
    rw [e_b, e_cons, a3, bnd_s, e_nil, bnd_s, bnd_s]
    rfl
  rw [s_ret, e_tup, e_cons, x0, bnd_s, e_cons, x1, bnd_s, e_cons, x2, bnd_s, e_nil, bnd_s, bnd_s, bnd_s, bnd_s]
  show bnd (bnd (gd (([K, .int ((n1 + n2 : Nat) : Int), .tup (G.map encM)] : List D).length ≤ 1000) _) _) _ = _
  rw [gd_t (by show (3 : Nat) ≤ 1000; omega), bnd_s, bnd_s]
  show some (Sv.dat _, C'.take C'.length) = _
  rw [List.take_length]
  rfl
end DX

namespace DX
open PySem PySem.Spec L2
theorem call2_e {F : FE} {f g : SE} {ρ : Env} {X : Store} {x y : D} {o : Option (Sv × Store)} (hf : f ρ X = some (.dat x, X)) (hg : g ρ X = some (.dat y, X)) (h : F [.dat x, .dat y] X = o) : eCall 2 F (aCons f (aCons g aNil)) ρ X = o := by
  rw [e_call, e_cons, hf, bnd_s, e_cons, hg, bnd_s, e_nil, bnd_s, bnd_s, bnd_s, g2]
  exact h
theorem sz_L {us : List Str} (h : us.length ≤ 1000) (n : Nat) : szD (n + 1) (encL us) = true := by
  unfold encL szD
  rw [Bool.and_eq_true, szDs_all]
  refine ⟨decide_eq_true (by rw [List.length_map]; exact h), fun d hd => ?_⟩
  obtain ⟨x, _, rfl⟩ := List.mem_map.mp hd
  cases n <;> rfl
theorem fm_len {α β : Type} {f : α → List β} {c : Nat} : ∀ {X : List α}, (∀ x ∈ X, (f x).length ≤ c) → (X.flatMap f).length ≤ X.length * c
  | [], _ => by simp
  | x :: X, h => by
    rw [List.flatMap_cons, List.length_append, List.length_cons, Nat.succ_mul]
    have := h x List.mem_cons_self
    have := fm_len (X := X) fun y hy => h y (List.mem_cons_of_mem _ hy)
    omega
theorem in_fit {rs : List Row} {n : Nat} {A : List Meth} (a : MOk rs n A) (l : List Str) : inP (fitL rs A l) := fun x hx => by
  obtain ⟨p, hp, rfl⟩ := List.mem_map.mp hx
  exact a.sub p (List.mem_filter.mp hp).1
theorem in_nst {rs : List Row} {n : Nat} {A : List Meth} (a : MOk rs n A) (l : List Str) : inP (nstL rs A l) := fun x hx => by
  obtain ⟨p, hp, rfl⟩ := List.mem_map.mp hx
  exact a.sub p (List.mem_filter.mp hp).1
theorem len_fit (rs : List Row) (A : List Meth) (l : List Str) : (fitL rs A l).length ≤ A.length := by
  unfold fitL
  rw [List.length_map]
  exact List.length_filter_le _ _
theorem len_nst (rs : List Row) (A : List Meth) (l : List Str) : (nstL rs A l).length ≤ A.length := by
  unfold nstL nstM
  rw [List.length_map]
  exact List.length_filter_le _ _
theorem ok_word {L : List Str} (h : ∀ x ∈ L, PyData.strOk x = true) : PyData.strOk (wordOf L) = true := by
  match L, h with
  | [], _ => exact none_ok
  | [x], h => exact h x (List.mem_singleton.mpr rfl)
  | _ :: _ :: _, _ => exact torn_okS
noncomputable def FF (rs : List Row) (A B : List Meth) (l r : List Str) : List (List Str) := if 1 < (nstL rs A l).length * (nstL rs B r).length then [l ++ r] else []
def jrIn : SS := (sSeq (sNew 6 (nLst (aCons (eCall 2 M_Ljoined (aCons (eCall 2 M_fitting (aCons (eVar 0) (aCons (eVar 2) aNil))) (aCons (eCall 2 M_fitting (aCons (eVar 1) (aCons (eVar 5) aNil))) aNil))) aNil)))
    (sSeq (sDrop (eApp (eVar 6) (eCall 2 M_Ljoined (aCons (eCall 2 M_nearest (aCons (eVar 0) (aCons (eVar 2) aNil))) (aCons (eCall 2 M_nearest (aCons (eVar 1) (aCons (eVar 5) aNil))) aNil)))))
    (sSeq (sDrop (eApp (eVar 6) (eCall 2 M_Lword (aCons (eCall 2 M_chosen (aCons (eVar 0) (aCons (eVar 2) aNil))) (aCons (eCall 2 M_chosen (aCons (eVar 1) (aCons (eVar 5) aNil))) aNil)))))
    (sSeq (sSet 7 (eBin dAdd (eVar 2) (eVar 5)))
    (sSeq (sIf (tNot' (tTru (eCall 2 (M_Lsame 10) (aCons (eFr (nLst (aCons (eCall 2 M_fitting (aCons (eVar 3) (aCons (eVar 7) aNil))) (aCons (eCall 2 M_nearest (aCons (eVar 3) (aCons (eVar 7) aNil))) (aCons (eCall 2 M_chosen (aCons (eVar 3) (aCons (eVar 7) aNil))) aNil))))) (aCons (eVar 6) aNil))))) (sRet (eC (.bl false))) sNil)
    (sSet 4 (eBin dAdd (eVar 4) (eBin dMul (eFr (nLst (aCons (eVar 7) aNil))) (eB dInt (aCons (eBin dEq (eBin dIx (eVar 6) (eC (.int 2))) (eC (.str "torn"))) aNil))))))))))
def rEnv (one other : D) (o2 : Option Sv) (great : D) (found : List (List Str)) (o5 o6 o7 : Option Sv) : Env := [some (.dat one), some (.dat other), o2, some (.dat great), some (.dat (encSs found)), o5, o6, o7]
structure Jr (rs : List Row) (K : D) (items : List D) (n1 n2 : Nat) (A B G : List Meth) : Prop where
  ma : MOk rs n1 A
  mb : MOk rs n2 B
  ga : Ge rs K items n1 A
  gb : Ge rs K items n2 B
  gg : Ge rs K items (n1 + n2) G
  gr : Great rs n1 n2 A B G
  la : A.length ≤ 7
  lb : B.length ≤ 7
variable {rs : List Row} {K : D} {items : List D} {n1 n2 : Nat} {A B G : List Meth}
theorem jr_in (j : Jr rs K items n1 n2 A B G) {l r : List Str} (hl : Shp rs n1 l) (hr : Shp rs n2 r) {found : List (List Str)} (hf : found.length ≤ 990) {X : Store} {o6 o7 : Option Sv} :
    ∃ (o6' o7' : Option Sv) (Z : D), jrIn (rEnv (genD K n1 A) (genD K n2 B) (some (.dat (encS l))) (genD K (n1 + n2) G) found (some (.dat (encS r))) o6 o7) X = some (.nx (rEnv (genD K n1 A) (genD K n2 B) (some (.dat (encS l))) (genD K (n1 + n2) G) (found ++ FF rs A B l r) (some (.dat (encS r))) o6' o7'), X ++ [Z]) := by
  let one := genD K n1 A
  let other := genD K n2 B
  let great := genD K (n1 + n2) G
  let el : Option Sv := some (.dat (encS l))
  let er : Option Sv := some (.dat (encS r))
  let ρ0 := rEnv one other el great found er o6 o7
  let ρ1 := rEnv one other el great found er (some (.cel X.length)) o7
  let ρ2 := rEnv one other el great found er (some (.cel X.length)) (some (.dat (encS (l ++ r))))
  let d1 := encL (fitL rs G (l ++ r))
  let d2 := encL (nstL rs G (l ++ r))
  let d3 := D.str (wordOf (nstL rs G (l ++ r)))
  have sg : Shp rs (n1 + n2) (l ++ r) := ⟨by rw [List.length_append, hl.1, hr.1], fun x hx => (List.mem_append.mp hx).elim (hl.2 x) (hr.2 x)⟩
  have fA := in_fit j.ma l
  have fB := in_fit j.mb r
  have nA := in_nst j.ma l
  have nB := in_nst j.mb r
  have lfA := Nat.le_trans (len_fit rs A l) j.la
  have lfB := Nat.le_trans (len_fit rs B r) j.lb
  have lnA := Nat.le_trans (len_nst rs A l) j.la
  have lnB := Nat.le_trans (len_nst rs B r) j.lb
  have b1 : sNew 6 (nLst (aCons (eCall 2 M_Ljoined (aCons (eCall 2 M_fitting (aCons (eVar 0) (aCons (eVar 2) aNil))) (aCons (eCall 2 M_fitting (aCons (eVar 1) (aCons (eVar 5) aNil))) aNil))) aNil)) ρ0 X = some (.nx ρ1, X ++ [.lst [d1]]) := by
    have q : eCall 2 M_Ljoined (aCons (eCall 2 M_fitting (aCons (eVar 0) (aCons (eVar 2) aNil))) (aCons (eCall 2 M_fitting (aCons (eVar 1) (aCons (eVar 5) aNil))) aNil)) ρ0 X = some (.dat d1, X) := by
      refine call2_e (call2_e rfl rfl (fitting_ok j.ga hl)) (call2_e rfl rfl (fitting_ok j.gb hr)) ?_
      rw [Ljoined_ok fA fB lfA lfB, ← great_fit j.gr hl hr]
    rw [s_new, e_lst, e_cons, q, bnd_s, e_nil, bnd_s, bnd_s]
    rfl
  have b2 : sDrop (eApp (eVar 6) (eCall 2 M_Ljoined (aCons (eCall 2 M_nearest (aCons (eVar 0) (aCons (eVar 2) aNil))) (aCons (eCall 2 M_nearest (aCons (eVar 1) (aCons (eVar 5) aNil))) aNil)))) ρ1 (X ++ [.lst [d1]]) = some (.nx ρ1, X ++ [.lst [d1, d2]]) := by
    refine app_last rfl (call2_e (call2_e rfl rfl (nearest_ok j.ga hl)) (call2_e rfl rfl (nearest_ok j.gb hr)) ?_) (by show 1 < 1000; omega)
    rw [Ljoined_ok nA nB lnA lnB, ← great_nst j.gr j.gg.go hl hr]
  have b3 : sDrop (eApp (eVar 6) (eCall 2 M_Lword (aCons (eCall 2 M_chosen (aCons (eVar 0) (aCons (eVar 2) aNil))) (aCons (eCall 2 M_chosen (aCons (eVar 1) (aCons (eVar 5) aNil))) aNil)))) ρ1 (X ++ [.lst [d1, d2]]) = some (.nx ρ1, X ++ [.lst [d1, d2, d3]]) := by
    refine app_last rfl (call2_e (call2_e rfl rfl (chosen_ok j.ga hl)) (call2_e rfl rfl (chosen_ok j.gb hr)) ?_) (by show 2 < 1000; omega)
    rw [Lword_ok (word_wordy nA) (word_wordy nB), word_join nA nB, ← great_nst j.gr j.gg.go hl hr]
  let Y : Store := X ++ [.lst [d1, d2, d3]]
  have b4 : sSet 7 (eBin dAdd (eVar 2) (eVar 5)) ρ1 Y = some (.nx ρ2, Y) := by
    have v2 : eVar 2 ρ1 Y = some (.dat (encS l), Y) := rfl
    have v5 : eVar 5 ρ1 Y = some (.dat (encS r), Y) := rfl
    have q : dAdd (encS l) (encS r) = some (encS (l ++ r)) := by
      show gd _ _ = _
      have h1 := j.gg.hn
      rw [gd_t (by rw [List.length_map, List.length_map, hl.1, hr.1]; exact small_line (by omega)), ← List.map_append]
      rfl
    rw [s_set, e_bin, v2, bnd_s, v5, bnd_s, see_d, bn1_s, see_d, bn1_s, q, bn1_s, bnd_s]
    rfl
  have okF : ∀ x ∈ fitL rs G (l ++ r), PyData.strOk x = true := fit_strok j.gg.go
  have okN : ∀ x ∈ nstL rs G (l ++ r), PyData.strOk x = true := fun x hx => by
    obtain ⟨p, hp, rfl⟩ := List.mem_map.mp hx
    exact j.gg.go.ok p (List.mem_filter.mp hp).1
  have v6 : eVar 6 ρ2 Y = some (.cel X.length, Y) := rfl
  have cY : Y[X.length]? = some (D.lst [d1, d2, d3]) := List.getElem?_concat_length
  have b5 : tNot' (tTru (eCall 2 (M_Lsame 10) (aCons (eFr (nLst (aCons (eCall 2 M_fitting (aCons (eVar 3) (aCons (eVar 7) aNil))) (aCons (eCall 2 M_nearest (aCons (eVar 3) (aCons (eVar 7) aNil))) (aCons (eCall 2 M_chosen (aCons (eVar 3) (aCons (eVar 7) aNil))) aNil))))) (aCons (eVar 6) aNil)))) ρ2 Y = some (false, Y) := by
    have f1 : eCall 2 M_fitting (aCons (eVar 3) (aCons (eVar 7) aNil)) ρ2 Y = some (.dat d1, Y) := call2_e rfl rfl (fitting_ok j.gg sg)
    have f2 : eCall 2 M_nearest (aCons (eVar 3) (aCons (eVar 7) aNil)) ρ2 Y = some (.dat d2, Y) := call2_e rfl rfl (nearest_ok j.gg sg)
    have f3 : eCall 2 M_chosen (aCons (eVar 3) (aCons (eVar 7) aNil)) ρ2 Y = some (.dat d3, Y) := call2_e rfl rfl (chosen_ok j.gg sg)
    have fl : eFr (nLst (aCons (eCall 2 M_fitting (aCons (eVar 3) (aCons (eVar 7) aNil))) (aCons (eCall 2 M_nearest (aCons (eVar 3) (aCons (eVar 7) aNil))) (aCons (eCall 2 M_chosen (aCons (eVar 3) (aCons (eVar 7) aNil))) aNil)))) ρ2 Y = some (.dat (.lst [d1, d2, d3]), Y) := by
      rw [e_fr, e_lst, e_cons, f1, bnd_s, e_cons, f2, bnd_s, e_cons, f3, bnd_s, e_nil, bnd_s, bnd_s, bnd_s, bnd_s]
      rfl
    have sm : M_Lsame 10 [.dat (.lst [d1, d2, d3]), .cel X.length] Y = some (.dat (.bl true), Y) := by
      refine same_dc (n := 8) cY ⟨by show 3 ≤ 1000; omega, fun d hd => ?_⟩
      have g60 := j.gg.hl
      have l1 := len_fit rs G (l ++ r)
      have l2 := len_nst rs G (l ++ r)
      rcases List.mem_cons.mp hd with h | hd
      · rw [h]
        exact ⟨sz_L (by omega) 7, ok_strs okF⟩
      · rcases List.mem_cons.mp hd with h | hd
        · rw [h]
          exact ⟨sz_L (by omega) 7, ok_strs okN⟩
        · rw [List.mem_singleton.mp hd]
          exact ⟨rfl, ok_word okN⟩
    rw [t_not, t_tru, e_call, e_cons, fl, bnd_s, e_cons, v6, bnd_s, e_nil, bnd_s, bnd_s, bnd_s, g2, sm]
    rfl
  have wt : wordOf (nstL rs G (l ++ r)) = "torn" ↔ 1 < (nstL rs A l).length * (nstL rs B r).length := by
    rw [great_nst j.gr j.gg.go hl hr]
    exact word_torn nA nB
  have b6 : sSet 4 (eBin dAdd (eVar 4) (eBin dMul (eFr (nLst (aCons (eVar 7) aNil))) (eB dInt (aCons (eBin dEq (eBin dIx (eVar 6) (eC (.int 2))) (eC (.str "torn"))) aNil)))) ρ2 Y = some (.nx (rEnv one other el great (found ++ FF rs A B l r) er (some (.cel X.length)) (some (.dat (encS (l ++ r))))), Y) := by
    have v4 : eVar 4 ρ2 Y = some (.dat (encSs found), Y) := rfl
    have n1' : eFr (nLst (aCons (eVar 7) aNil)) ρ2 Y = some (.dat (.lst [encS (l ++ r)]), Y) := rfl
    have ix : eBin dIx (eVar 6) (eC (.int 2)) ρ2 Y = some (.dat d3, Y) := by
      rw [e_bin, v6, bnd_s, e_c, bnd_s, see_c, cY]
      rfl
    have eq : eBin dEq (eBin dIx (eVar 6) (eC (.int 2))) (eC (.str "torn")) ρ2 Y = some (.dat (.bl (decide (1 < (nstL rs A l).length * (nstL rs B r).length))), Y) := by
      rw [e_bin, ix, bnd_s, e_c, bnd_s, see_d, bn1_s, see_d, bn1_s, eq_strs (ok_word okN) torn_okS, bn1_s]
      congr 4
      rw [decide_eq_decide]
      exact wt
    by_cases z : 1 < (nstL rs A l).length * (nstL rs B r).length
    · rw [decide_eq_true z] at eq
      have bi : eB dInt (aCons (eBin dEq (eBin dIx (eVar 6) (eC (.int 2))) (eC (.str "torn"))) aNil) ρ2 Y = some (.dat (.int 1), Y) := by
        rw [e_b, e_cons, eq, bnd_s, e_nil, bnd_s, bnd_s]
        rfl
      have dm : dMul (.lst [encS (l ++ r)]) (.int 1) = some (encSs [l ++ r]) := by
        have hz : (1 : Int) ≤ 1000000 ∧ -1000000 ≤ (1 : Int) ∧ [encS (l ++ r)].length * (1 : Int).toNat ≤ sizeLine := ⟨by omega, by omega, small_line (show 1 ≤ 1000 by omega)⟩
        exact gd_t hz
      have da : dAdd (encSs found) (encSs [l ++ r]) = some (encSs (found ++ [l ++ r])) := by
        show gd _ _ = _
        rw [gd_t (by rw [List.length_map]; exact small_line (by show found.length + 1 ≤ 1000; omega)), ← List.map_append]
        rfl
      rw [s_set, e_bin, v4, bnd_s, e_bin, n1', bnd_s, bi, bnd_s, see_d, bn1_s, see_d, bn1_s, dm, bn1_s, bnd_s, see_d, bn1_s, see_d, bn1_s, da, bn1_s, bnd_s]
      unfold FF
      rw [if_pos z]
      rfl
    · rw [decide_eq_false z] at eq
      have bi : eB dInt (aCons (eBin dEq (eBin dIx (eVar 6) (eC (.int 2))) (eC (.str "torn"))) aNil) ρ2 Y = some (.dat (.int 0), Y) := by
        rw [e_b, e_cons, eq, bnd_s, e_nil, bnd_s, bnd_s]
        rfl
      have dm : dMul (.lst [encS (l ++ r)]) (.int 0) = some (encSs []) := by
        have hz : (0 : Int) ≤ 1000000 ∧ -1000000 ≤ (0 : Int) ∧ [encS (l ++ r)].length * (0 : Int).toNat ≤ sizeLine := ⟨by omega, by omega, small_line (show 0 ≤ 1000 by omega)⟩
        exact gd_t hz
      have da : dAdd (encSs found) (encSs []) = some (encSs (found ++ [])) := by
        show gd _ _ = _
        rw [gd_t (by rw [List.length_map]; exact small_line (by show found.length + 0 ≤ 1000; omega)), ← List.map_append]
        rfl
      rw [s_set, e_bin, v4, bnd_s, e_bin, n1', bnd_s, bi, bnd_s, see_d, bn1_s, see_d, bn1_s, dm, bn1_s, bnd_s, see_d, bn1_s, see_d, bn1_s, da, bn1_s, bnd_s]
      unfold FF
      rw [if_neg z]
      rfl
  refine ⟨some (.cel X.length), some (.dat (encS (l ++ r))), .lst [d1, d2, d3], ?_⟩
  show jrIn ρ0 X = _
  unfold jrIn
  rw [s_seq, b1, bnd_s]
  dsimp only
  rw [s_seq, b2, bnd_s]
  dsimp only
  rw [s_seq, b3, bnd_s]
  dsimp only
  rw [s_seq, b4, bnd_s]
  dsimp only
  rw [s_seq, s_if, b5, bnd_s, if_neg Bool.false_ne_true, s_nil, bnd_s]
  dsimp only
  exact b6
end DX

namespace DX
open PySem PySem.Spec L2
variable {rs : List Row} {K : D} {items : List D} {n1 n2 : Nat} {A B G : List Meth}
theorem FF_len (l r : List Str) : (FF rs A B l r).length ≤ 1 := by
  unfold FF
  split <;> simp
theorem calls_it (i : Nat) {n : Nat} {L : List Meth} {ρ : Env} {X : Store} (h8 : rs.length ≤ 8) (hK : IsK K rs items) (hn : n ≤ 3) (v : eVar i ρ X = some (.dat (genD K n L), X)) :
    iSq (eCall 1 M_Lcalls (aCons (eVar i) aNil)) ρ X = some (⟨(SHs rs n).map encS, []⟩, X) := by
  rw [iSq_eq, e_call, e_cons, v, bnd_s, e_nil, bnd_s, bnd_s, g1, Lcalls_ok h8 hK hn, bnd_s]
  rfl
theorem jr_mid (j : Jr rs K items n1 n2 A B G) (h90 : (SHs rs n2).length ≤ 90) {l : List Str} (hl : Shp rs n1 l) {found : List (List Str)} (hf : found.length ≤ 900) {X : Store} {o5 o6 o7 : Option Sv} :
    ∃ (o5' o6' o7' : Option Sv) (Z : Store), sFor (iSq (eCall 1 M_Lcalls (aCons (eVar 1) aNil))) (bName 5) jrIn (rEnv (genD K n1 A) (genD K n2 B) (some (.dat (encS l))) (genD K (n1 + n2) G) found o5 o6 o7) X = some (.nx (rEnv (genD K n1 A) (genD K n2 B) (some (.dat (encS l))) (genD K (n1 + n2) G) (found ++ (SHs rs n2).flatMap (FF rs A B l)) o5' o6' o7'), X ++ Z) := by
  let I : Nat → Env → Store → Prop := fun i ρ C' => ∃ (o5 o6 o7 : Option Sv) (Z : Store), ρ = rEnv (genD K n1 A) (genD K n2 B) (some (.dat (encS l))) (genD K (n1 + n2) G) (found ++ ((SHs rs n2).take i).flatMap (FF rs A B l)) o5 o6 o7 ∧ C' = X ++ Z
  obtain ⟨ρ', C', e, o5', o6', o7', Z, hρ, hC⟩ := for_inv (cels := []) (b := bName 5) (body := jrIn) (items := (SHs rs n2).map encS) (I := I) (ρ := rEnv (genD K n1 A) (genD K n2 B) (some (.dat (encS l))) (genD K (n1 + n2) G) found o5 o6 o7) (C := X) ⟨o5, o6, o7, [], by simp, by simp⟩ (by
    intro i d ρ C' hd ⟨o5, o6, o7, Z, hρ, hC⟩
    subst hρ
    rw [List.getElem?_map] at hd
    cases hx : (SHs rs n2)[i]? with
    | none => rw [hx] at hd; cases hd
    | some r =>
      rw [hx] at hd
      cases hd
      have hr : Shp rs n2 r := sh_shp (List.mem_of_getElem? hx)
      have lf : (((SHs rs n2).take i).flatMap (FF rs A B l)).length ≤ 90 := by
        have q := fm_len (X := (SHs rs n2).take i) (f := FF rs A B l) (c := 1) fun r _ => FF_len l r
        rw [List.length_take] at q
        omega
      obtain ⟨o6', o7', z, w⟩ := jr_in j hl hr (found := found ++ ((SHs rs n2).take i).flatMap (FF rs A B l)) (by rw [List.length_append]; omega) (X := C') (o6 := o6) (o7 := o7)
      refine ⟨rfl, rEnv (genD K n1 A) (genD K n2 B) (some (.dat (encS l))) (genD K (n1 + n2) G) (found ++ ((SHs rs n2).take i).flatMap (FF rs A B l)) (some (.dat (encS r))) o6 o7, _, _, rfl, w, some (.dat (encS r)), o6', o7', Z ++ [z], ?_, ?_⟩
      · rw [List.take_add_one, hx, List.flatMap_append, List.append_assoc]
        simp
      · rw [hC, List.append_assoc]) (fun _ _ _ => rfl)
  rw [List.length_map, List.take_length] at hρ
  refine ⟨o5', o6', o7', Z, ?_⟩
  have it := calls_it (ρ := rEnv (genD K n1 A) (genD K n2 B) (some (.dat (encS l))) (genD K (n1 + n2) G) found o5 o6 o7) (X := X) 1 (n := n2) (L := B) j.gb.h8 j.gb.hK j.gb.hn rfl
  unfold sFor
  rw [it, bnd_s, ← hρ, ← hC]
  exact e
theorem jr_ok {C : Store} (k : KOk rs) (h8 : rs.length ≤ 8) (hK : IsK K rs items) (ma : MOk rs n1 A) (mb : MOk rs n2 B) (hn : n1 + n2 ≤ 3) (la : A.length ≤ 7) (lb : B.length ≤ 7) (h90 : (SHs rs n2).length ≤ 90) (h900 : (SHs rs n1).length * (SHs rs n2).length ≤ 900) :
    M_Ljoined_right [.dat (genD K n1 A), .dat (genD K n2 B)] C = some (.dat (.bl true), C) := by
  obtain ⟨G, gr, eg⟩ := Lgreat_ok (C := C) (K := K) k ma mb hn la lb
  have lg : G.length ≤ 60 := by
    rw [gr.perm.length_eq, prM_len]
    exact Nat.le_trans (Nat.mul_le_mul la lb) (by omega)
  have j : Jr rs K items n1 n2 A B G := ⟨ma, mb, ⟨k, h8, hK, by omega, ma.g, by omega⟩, ⟨k, h8, hK, by omega, mb.g, by omega⟩, ⟨k, h8, hK, hn, great_ok ma mb gr, lg⟩, gr, la, lb⟩
  let one := genD K n1 A
  let other := genD K n2 B
  let great := genD K (n1 + n2) G
  let FO : List Str → List (List Str) := fun l => (SHs rs n2).flatMap (FF rs A B l)
  have FOl : ∀ l, (FO l).length ≤ (SHs rs n2).length := fun l => by
    have q := fm_len (X := SHs rs n2) (f := FF rs A B l) (c := 1) fun r _ => FF_len l r
    show ((SHs rs n2).flatMap (FF rs A B l)).length ≤ _
    omega
  let I : Nat → Env → Store → Prop := fun i ρ C' => ∃ (o2 o5 o6 o7 : Option Sv) (Z : Store), ρ = rEnv one other o2 great (((SHs rs n1).take i).flatMap FO) o5 o6 o7 ∧ C' = C ++ Z
  let body : SS := sFor (iSq (eCall 1 M_Lcalls (aCons (eVar 1) aNil))) (bName 5) jrIn
  obtain ⟨ρ', C', e, o2, o5, o6, o7, Z, hρ, hC⟩ := for_inv (cels := []) (b := bName 2) (body := body) (items := (SHs rs n1).map encS) (I := I) (ρ := rEnv one other none great [] none none none) (C := C) ⟨none, none, none, none, [], by simp, by simp⟩ (by
    intro i d ρ C' hd ⟨o2, o5, o6, o7, Z, hρ, hC⟩
    subst hρ
    rw [List.getElem?_map] at hd
    cases hx : (SHs rs n1)[i]? with
    | none => rw [hx] at hd; cases hd
    | some l =>
      rw [hx] at hd
      cases hd
      have hl : Shp rs n1 l := sh_shp (List.mem_of_getElem? hx)
      have lf : (((SHs rs n1).take i).flatMap FO).length ≤ 900 := by
        have q := fm_len (X := (SHs rs n1).take i) (f := FO) (c := (SHs rs n2).length) fun l _ => FOl l
        rw [List.length_take] at q
        have : min i (SHs rs n1).length * (SHs rs n2).length ≤ (SHs rs n1).length * (SHs rs n2).length := Nat.mul_le_mul_right _ (by omega)
        omega
      obtain ⟨o5', o6', o7', z, w⟩ := jr_mid j h90 hl (found := ((SHs rs n1).take i).flatMap FO) lf (X := C') (o5 := o5) (o6 := o6) (o7 := o7)
      refine ⟨rfl, rEnv one other (some (.dat (encS l))) great (((SHs rs n1).take i).flatMap FO) o5 o6 o7, _, _, rfl, w, some (.dat (encS l)), o5', o6', o7', Z ++ z, ?_, ?_⟩
      · rw [List.take_add_one, hx, List.flatMap_append]
        simp [FO]
        rfl
      · rw [hC, List.append_assoc]) (fun _ _ _ => rfl)
  rw [List.length_map, List.take_length] at hρ
  unfold M_Ljoined_right
  rw [runE_eq (by rfl)]
  unfold m_Ljoined_right
  let ρ0 : Env := [some (.dat one), some (.dat other), none, none, none, none, none, none]
  have e0 : startE 8 [Sv.dat (genD K n1 A), Sv.dat (genD K n2 B)] = ρ0 := rfl
  have a1 : sMul [3, 4] (aCons (eCall 2 M_Lgreat (aCons (eVar 0) (aCons (eVar 1) aNil))) (aCons (eFr (nLst aNil)) aNil)) ρ0 C = some (.nx (rEnv one other none great [] none none none), C) := by
    have f1 : eCall 2 M_Lgreat (aCons (eVar 0) (aCons (eVar 1) aNil)) ρ0 C = some (.dat great, C) := call2_e rfl rfl eg
    have f2 : eFr (nLst aNil) ρ0 C = some (.dat (.lst []), C) := rfl
    unfold sMul
    rw [e_cons, f1, bnd_s, e_cons, f2, bnd_s, e_nil, bnd_s, bnd_s, bnd_s]
    rfl
  have a2 : sFor (iSq (eCall 1 M_Lcalls (aCons (eVar 0) aNil))) (bName 2) body (rEnv one other none great [] none none none) C = some (.nx ρ', C') := by
    have it := calls_it (ρ := rEnv one other none great [] none none none) (X := C) 0 (n := n1) (L := A) h8 hK (by omega) rfl
    unfold sFor
    rw [it, bnd_s]
    exact e
  have a3 : eCall 2 (M_Lsame 10) (aCons (eCall 1 M_torn (aCons (eVar 3) aNil)) (aCons (eVar 4) aNil)) ρ' C' = some (.dat (.bl true), C') := by
    have v3 : eVar 3 ρ' C' = some (.dat great, C') := by rw [hρ]; rfl
    have v4 : eVar 4 ρ' C' = some (.dat (encSs ((SHs rs n1).flatMap FO)), C') := by rw [hρ]; rfl
    have tq : tornL rs G (n1 + n2) = (SHs rs n1).flatMap FO := great_torn gr j.gg.go
    have f1 : eCall 1 M_torn (aCons (eVar 3) aNil) ρ' C' = some (.dat (encSs ((SHs rs n1).flatMap FO)), C') := by
      rw [e_call, e_cons, v3, bnd_s, e_nil, bnd_s, bnd_s, g1, torn_ok j.gg, tq]
    refine call2_e f1 v4 (same_ok 9 _ _ ?_ ?_)
    · have ml : ((SHs rs n1).flatMap FO).length ≤ 1000 := by
        have q := fm_len (X := SHs rs n1) (f := FO) (c := (SHs rs n2).length) fun l _ => FOl l
        omega
      refine sz_Ss ml (fun c hc => ?_) 7
      rw [← tq] at hc
      rw [(sh_shp (List.mem_filter.mp hc).1).1]
      omega
    · refine ok_Ss (n := 7) fun c hc => ?_
      rw [← tq] at hc
      exact (sh_shp (List.mem_filter.mp hc).1).ok k
  rw [e0, s_seq, a1, bnd_s]
  show bnd (sSeq (sFor (iSq (eCall 1 M_Lcalls (aCons (eVar 0) aNil))) (bName 2) body) (sRet (eCall 2 (M_Lsame 10) (aCons (eCall 1 M_torn (aCons (eVar 3) aNil)) (aCons (eVar 4) aNil)))) (rEnv one other none great [] none none none) C) _ = _
  rw [s_seq, a2, bnd_s]
  dsimp only
  rw [s_ret, a3, bnd_s, bnd_s]
  show some (Sv.dat _, C'.take C.length) = _
  rw [hC, List.take_left' rfl]
/-! ### the law's right -/
theorem kok_take {rs : List Row} (k : KOk rs) (m : Nat) : KOk (rs.take m) where
  good := fun j r hj => by
    have hj2 : rs[j]? = some r ∧ j < m := by
      rw [List.getElem?_take] at hj
      split at hj
      · exact ⟨hj, by assumption⟩
      · cases hj
    have g := k.good j r hj2.1
    rw [List.take_take, Nat.min_eq_left (by omega)]
    exact g
  nd := by
    show ((rs.take m).map (·.nm)).Nodup
    rw [List.map_take]
    exact (List.take_sublist m _).nodup k.nd
  sub := fun u hu => k.sub u (by
    have : u ∈ (rs.take m).map (·.nm) := hu
    rw [List.map_take] at this
    exact List.mem_of_mem_take this)
theorem meth_e {rs : List Row} {n many k : Nat} {B : D} {ρ : Env} {i : Nat} {E : SE} (kk : KOk rs) (h8 : rs.length ≤ 8) (hn : n ≤ 3) (v0 : ∀ C, eVar 0 ρ C = some (.cel 0, C)) (vi : ∀ C, eVar i ρ C = some (.dat (hardK rs), C)) {B' : D} (hE : E ρ [B] = some (.dat (.int many), [B'])) (hB : Box k B') (hk : k + 2 * many < 90000) (hm : many ≤ 7) :
    ∃ (L : List Meth) (B2 : D), eTup (aCons (eVar i) (aCons (eC (.int n)) (aCons (eCall 4 M_Lmethods (aCons (eVar 0) (aCons (eVar i) (aCons (eC (.int n)) (aCons E aNil))))) aNil))) ρ [B] = some (.dat (genD (hardK rs) n L), [B2]) ∧ Box (k + 2 * many) B2 ∧ MOk rs n L ∧ L.length ≤ many := by
  obtain ⟨L, B2, e, b, mo, ml⟩ := methods_ok kk h8 (isK_hard rs) hn hB hk hm
  refine ⟨L, B2, ?_, b, mo, ml⟩
  have ec : eCall 4 M_Lmethods (aCons (eVar 0) (aCons (eVar i) (aCons (eC (.int n)) (aCons E aNil)))) ρ [B] = some (.dat (.tup (L.map encM)), [B2]) := by
    rw [e_call, e_cons, v0, bnd_s, e_cons, vi, bnd_s, e_cons, e_c, bnd_s, e_cons, hE, bnd_s, e_nil, bnd_s, bnd_s, bnd_s, bnd_s, bnd_s, g4]
    exact e
  rw [e_tup, e_cons, vi, bnd_s, e_cons, e_c, bnd_s, e_cons, ec, bnd_s, e_nil, bnd_s, bnd_s, bnd_s, bnd_s]
  show gd (([hardK rs, .int n, .tup (L.map encM)] : List D).length ≤ 1000) _ = _
  rw [gd_t (by show (3 : Nat) ≤ 1000; omega)]
  rfl
theorem sh_len1 {rs : List Row} (h8 : rs.length ≤ 8) : (SHs rs 1).length ≤ 8 := by
  unfold SHs
  rw [prod_len, asc_len, Nat.pow_one]
  exact h8
theorem sh_len2 {rs : List Row} (h8 : rs.length ≤ 8) : (SHs rs 2).length ≤ 64 := by
  unfold SHs
  rw [prod_len, asc_len]
  exact Nat.pow_le_pow_left h8 2
theorem right_ok {B : D} (hB : Box 0 B) : ∃ C', M_Lright [.cel 0] [B] = some (.dat (.bl true), C') := by
  let ρ0 : Env := [some (.cel 0), none, none, none, none]
  obtain ⟨r, B1, e1, r1, b1⟩ := hB.take (C := []) (n := 3) (by omega) (by omega) (by omega)
  obtain ⟨rs, B2, e2, b2, hlen, k⟩ := kinds_ok (many := 3 + r) (bare := 2) b1 (by omega) (by omega)
  have h8 : rs.length ≤ 8 := by omega
  let K := hardK rs
  let ρ1 : Env := [some (.cel 0), some (.dat K), none, none, none]
  have a1 : sSet 1 (eCall 3 M_Lkinds (aCons (eVar 0) (aCons (eBin dAdd (eC (.int 3)) (eCall 2 M_Ltake (aCons (eVar 0) (aCons (eC (.int 3)) aNil)))) (aCons (eC (.int 2)) aNil)))) ρ0 [B] = some (.nx ρ1, [B2]) := by
    have v0 : ∀ C, eVar 0 ρ0 C = some (.cel 0, C) := fun _ => rfl
    have t3 : eCall 2 M_Ltake (aCons (eVar 0) (aCons (eC (.int 3)) aNil)) ρ0 [B] = some (.dat (.int r), [B1]) := by
      rw [e_call, e_cons, v0, bnd_s, e_cons, e_c, bnd_s, e_nil, bnd_s, bnd_s, bnd_s, g2]
      exact e1
    have d : dAdd (.int 3) (.int (r : Int)) = some (.int ((3 + r : Nat) : Int)) := by
      show some (D.int (3 + (r : Int))) = _
      rw [Int.natCast_add]
      rfl
    have s2 : eBin dAdd (eC (.int 3)) (eCall 2 M_Ltake (aCons (eVar 0) (aCons (eC (.int 3)) aNil))) ρ0 [B] = some (.dat (.int ((3 + r : Nat) : Int)), [B1]) := by
      rw [e_bin, e_c, bnd_s, t3, bnd_s, see_d, bn1_s, see_d, bn1_s, d, bn1_s]
    rw [s_set, e_call, e_cons, v0, bnd_s, e_cons, s2, bnd_s, e_cons, e_c, bnd_s, e_nil, bnd_s, bnd_s, bnd_s, bnd_s, g3, e2, bnd_s]
    rfl
  obtain ⟨s, B3, e3, s1, b3⟩ := b2.take (C := []) (n := 2) (by omega) (by omega) (by omega)
  have v01 : ∀ C, eVar 0 ρ1 C = some (.cel 0, C) := fun _ => rfl
  have hE : eBin dAdd (eC (.int 2)) (eCall 2 M_Ltake (aCons (eVar 0) (aCons (eC (.int 2)) aNil))) ρ1 [B2] = some (.dat (.int ((2 + s : Nat) : Int)), [B3]) := by
    have t2 : eCall 2 M_Ltake (aCons (eVar 0) (aCons (eC (.int 2)) aNil)) ρ1 [B2] = some (.dat (.int s), [B3]) := by
      rw [e_call, e_cons, v01, bnd_s, e_cons, e_c, bnd_s, e_nil, bnd_s, bnd_s, bnd_s, g2]
      exact e3
    have d : dAdd (.int 2) (.int (s : Int)) = some (.int ((2 + s : Nat) : Int)) := by
      show some (D.int (2 + (s : Int))) = _
      rw [Int.natCast_add]
      rfl
    rw [e_bin, e_c, bnd_s, t2, bnd_s, see_d, bn1_s, see_d, bn1_s, d, bn1_s]
  obtain ⟨A1, B4, f4, b4, m1, l1⟩ := meth_e (n := 1) (i := 1) k h8 (by omega) v01 (fun _ => rfl) hE b3 (by omega) (by omega)
  let ρ2 : Env := [some (.cel 0), some (.dat K), some (.dat (genD K 1 A1)), none, none]
  have v02 : ∀ C, eVar 0 ρ2 C = some (.cel 0, C) := fun _ => rfl
  obtain ⟨A2, B5, f5, b5, m2, l2⟩ := meth_e (n := 1) (i := 1) (many := 2) (ρ := ρ2) (B := B4) (E := eC (.int 2)) k h8 (by omega) v02 (fun _ => rfl) rfl b4 (by omega) (by omega)
  let ρ3 : Env := [some (.cel 0), some (.dat K), some (.dat (genD K 1 A1)), some (.dat (genD K 1 A2)), none]
  let rs3 := rs.take 3
  have k3 : KOk rs3 := kok_take k 3
  have h83 : rs3.length ≤ 8 := by
    show (rs.take 3).length ≤ 8
    rw [List.length_take]
    omega
  let K3 := hardK rs3
  let ρ4 : Env := [some (.cel 0), some (.dat K), some (.dat (genD K 1 A1)), some (.dat (genD K 1 A2)), some (.dat K3)]
  have v04 : ∀ C, eVar 0 ρ4 C = some (.cel 0, C) := fun _ => rfl
  obtain ⟨A3, B6, f6, b6, m3, l3⟩ := meth_e (n := 2) (i := 4) (many := 3) (ρ := ρ4) (B := B5) (E := eC (.int 3)) k3 h83 (by omega) v04 (fun _ => rfl) rfl b5 (by omega) (by omega)
  let ρ5 : Env := [some (.cel 0), some (.dat K), some (.dat (genD K3 2 A3)), some (.dat (genD K 1 A2)), some (.dat K3)]
  have v05 : ∀ C, eVar 0 ρ5 C = some (.cel 0, C) := fun _ => rfl
  obtain ⟨A4, B7, f7, b7, m4, l4⟩ := meth_e (n := 1) (i := 4) (many := 2) (ρ := ρ5) (B := B6) (E := eC (.int 2)) k3 h83 (by omega) v05 (fun _ => rfl) rfl b6 (by omega) (by omega)
  let ρ6 : Env := [some (.cel 0), some (.dat K), some (.dat (genD K3 2 A3)), some (.dat (genD K3 1 A4)), some (.dat K3)]
  have a2 : sSet 2 (eTup (aCons (eVar 1) (aCons (eC (.int 1)) (aCons (eCall 4 M_Lmethods (aCons (eVar 0) (aCons (eVar 1) (aCons (eC (.int 1)) (aCons (eBin dAdd (eC (.int 2)) (eCall 2 M_Ltake (aCons (eVar 0) (aCons (eC (.int 2)) aNil)))) aNil))))) aNil)))) ρ1 [B2] = some (.nx ρ2, [B4]) := by
    rw [s_set]
    show bnd (eTup (aCons (eVar 1) (aCons (eC (.int ((1 : Nat) : Int))) (aCons (eCall 4 M_Lmethods (aCons (eVar 0) (aCons (eVar 1) (aCons (eC (.int ((1 : Nat) : Int))) (aCons _ aNil))))) aNil))) ρ1 [B2]) _ = _
    rw [f4, bnd_s]
    rfl
  have a3 : sSet 3 (eTup (aCons (eVar 1) (aCons (eC (.int 1)) (aCons (eCall 4 M_Lmethods (aCons (eVar 0) (aCons (eVar 1) (aCons (eC (.int 1)) (aCons (eC (.int 2)) aNil))))) aNil)))) ρ2 [B4] = some (.nx ρ3, [B5]) := by
    rw [s_set]
    show bnd (eTup (aCons (eVar 1) (aCons (eC (.int ((1 : Nat) : Int))) (aCons (eCall 4 M_Lmethods (aCons (eVar 0) (aCons (eVar 1) (aCons (eC (.int ((1 : Nat) : Int))) (aCons (eC (.int 2)) aNil))))) aNil))) ρ2 [B4]) _ = _
    rw [f5, bnd_s]
    rfl
  have a4 : tNot' (tTru (eCall 2 M_Ljoined_right (aCons (eVar 2) (aCons (eVar 3) aNil)))) ρ3 [B5] = some (false, [B5]) := by
    have q : eCall 2 M_Ljoined_right (aCons (eVar 2) (aCons (eVar 3) aNil)) ρ3 [B5] = some (.dat (.bl true), [B5]) := by
      refine call2_e rfl rfl (jr_ok k h8 (isK_hard rs) m1 m2 (by omega) (by omega) (by omega) ?_ ?_)
      · have := sh_len1 h8; omega
      · exact Nat.le_trans (Nat.mul_le_mul (sh_len1 h8) (sh_len1 h8)) (by omega)
    rw [t_not, t_tru, q]
    rfl
  have a5 : sSet 4 (eSl (eVar 1) oNone (oSome (eC (.int 3)))) ρ3 [B5] = some (.nx ρ4, [B5]) := by
    have q : eSl (eVar 1) oNone (oSome (eC (.int 3))) ρ3 [B5] = some (.dat (.tup (cutD (rs.map encRow) none (some ((3 : Nat) : Int)))), [B5]) := rfl
    rw [s_set, q, cut_loG, bnd_s, ← List.map_take]
    rfl
  have a6 : sSet 2 (eTup (aCons (eVar 4) (aCons (eC (.int 2)) (aCons (eCall 4 M_Lmethods (aCons (eVar 0) (aCons (eVar 4) (aCons (eC (.int 2)) (aCons (eC (.int 3)) aNil))))) aNil)))) ρ4 [B5] = some (.nx ρ5, [B6]) := by
    rw [s_set]
    show bnd (eTup (aCons (eVar 4) (aCons (eC (.int ((2 : Nat) : Int))) (aCons (eCall 4 M_Lmethods (aCons (eVar 0) (aCons (eVar 4) (aCons (eC (.int ((2 : Nat) : Int))) (aCons (eC (.int 3)) aNil))))) aNil))) ρ4 [B5]) _ = _
    rw [f6, bnd_s]
    rfl
  have a7 : sSet 3 (eTup (aCons (eVar 4) (aCons (eC (.int 1)) (aCons (eCall 4 M_Lmethods (aCons (eVar 0) (aCons (eVar 4) (aCons (eC (.int 1)) (aCons (eC (.int 2)) aNil))))) aNil)))) ρ5 [B6] = some (.nx ρ6, [B7]) := by
    rw [s_set]
    show bnd (eTup (aCons (eVar 4) (aCons (eC (.int ((1 : Nat) : Int))) (aCons (eCall 4 M_Lmethods (aCons (eVar 0) (aCons (eVar 4) (aCons (eC (.int ((1 : Nat) : Int))) (aCons (eC (.int 2)) aNil))))) aNil))) ρ5 [B6]) _ = _
    rw [f7, bnd_s]
    rfl
  have a8 : eCall 2 M_Ljoined_right (aCons (eVar 2) (aCons (eVar 3) aNil)) ρ6 [B7] = some (.dat (.bl true), [B7]) := by
    refine call2_e rfl rfl (jr_ok k3 h83 (isK_hard rs3) m3 m4 (by omega) (by omega) (by omega) ?_ ?_)
    · have := sh_len1 h83; omega
    · exact Nat.le_trans (Nat.mul_le_mul (sh_len2 h83) (sh_len1 h83)) (by omega)
  refine ⟨[B7].take 1, ?_⟩
  unfold M_Lright
  rw [runE_eq (by rfl)]
  unfold m_Lright
  have e0 : startE 5 [Sv.cel 0] = ρ0 := rfl
  rw [e0, s_seq, a1, bnd_s]
  dsimp only
  rw [s_seq, a2, bnd_s]
  dsimp only
  rw [s_seq, a3, bnd_s]
  dsimp only
  rw [s_seq, s_if, a4, bnd_s, if_neg Bool.false_ne_true, s_nil, bnd_s]
  dsimp only
  rw [s_seq, a5, bnd_s]
  dsimp only
  rw [s_seq, a6, bnd_s]
  dsimp only
  rw [s_seq, a7, bnd_s]
  dsimp only
  rw [s_ret, a8, bnd_s, bnd_s]
  rfl
theorem good89 (ns : List Int) (h : ns.length ≤ 63) : ∃ C, M_law [.dat (.scr ns)] [] = some (.dat (.bl true), C) := law_of h fun B hB => right_ok hB
end DX

theorem DX.goodM (ns : List Int) (h : ns.length ≤ 63) : ∃ C, DX.M_law [.dat (.scr ns)] [] = some (.dat (.bl true), C) := DX.good89 ns h
open PySem PySem.W PyProof.Rows
set_option maxHeartbeats 0 in
theorem PySem.Challenge.cw_whichmethod_k89_whole_places_side_by_sid_holds : PySem.Challenge.rw_whichmethod_k89_whole_places_side_by_sid.Holds := by
  w_on; o_law; k_head; (case hw => w_witness2)
  k_fill
  refine L2.walk_of (l := PySem.Challenge.rw_whichmethod_k89_whole_places_side_by_sid) (n := 63) (k := 14) (x := "_law_script") (CX := fun _ => L2.CX0) (sp := fun w => DX.spTop _) rfl (by decide) rfl ⟨rfl, by decide, by decide⟩ (fun w h Y => PySem.W.kIn_of Y) ?F (fun _ _ a ns hl _ hS => ⟨a, ns, rfl, hS, hl, fun _ => rfl⟩) (fun _ _ _ _ _ h => h)
  case F =>
    intro w mg fa h KX G hmg
    have HM := DX.goodM
    refine' DX.all_mk KX G hmg ?a2 ?l2 ?c2 ?k2 ?a3 ?l3 ?c3 ?k3 ?a4 ?l4 ?c4 ?k4 ?a6 ?l6 ?c6 ?k6 ?a8x3 ?i8x3 ?l8x3 ?c8x3 ?k8x3 ?a8x1 ?i8x1 ?l8x1 ?c8x1 ?k8x1 ?a8x0 ?i8x0 ?l8x0 ?c8x0 ?k8x0 ?a10 ?l10 ?c10 ?k10 ?a8x4 ?i8x4 ?l8x4 ?c8x4 ?k8x4 ?a11 ?l11 ?c11 ?k11 ?a8x5 ?i8x5 ?l8x5 ?c8x5 ?k8x5 ?a12 ?l12 ?c12 ?k12 ?a14 ?l14 ?c14 ?k14 ?a13 ?l13 ?c13 ?k13 ?a16 ?l16 ?c16 ?k16 ?a17 ?l17 ?c17 ?k17 ?a18 ?l18 ?c18 ?k18 ?a19 ?l19 ?c19 ?k19 ?a20 ?l20 ?c20 ?k20 ?a21 ?l21 ?c21 ?k21 ?a22 ?l22 ?c22 ?k22 ?a23 ?l23 ?c23 ?k23 ?a24 ?l24 ?c24 ?k24 ?a25 ?l25 ?c25 ?k25 ?a26 ?l26 ?c26 ?k26 ?a27 ?l27 ?c27 ?k27 ?a28 ?l28 ?c28 ?k28 ?a29 ?l29 ?c29 ?k29 ?a30 ?l30 ?c30 ?k30 ?aC_Table ?pg_Table ?hd_Table ?po_Table ?sa_Table ?mk_Table ?kc_Table ?n_Table_above ?n_Table_kinds ?n_Table_methods ?n_Table_nearer ?z_abs ?z_all ?z_any ?z_bool ?z_enumerate ?z_int ?z_isinstance ?z_len ?z_list ?z_range ?z_set ?z_sorted ?z_str ?z_tuple ?z_zip  HM
    (case aC_Table => k_is); (case pg_Table => k_is); (case hd_Table => k_is); (case po_Table => k_is); (case sa_Table => k_is); (case mk_Table => k_is); (case kc_Table => k_is); (case n_Table_above => k_is); (case n_Table_kinds => k_is); (case n_Table_methods => k_is); (case n_Table_nearer => k_is)
    (case a2 => k_is); (case l2 => k_is); (case c2 => k_is); (case k2 => k_is)
    (case a3 => k_is); (case l3 => k_is); (case c3 => k_is); (case k3 => k_is)
    (case a4 => k_is); (case l4 => k_is); (case c4 => k_is); (case k4 => k_is)
    (case a6 => k_is); (case l6 => k_is); (case c6 => k_is); (case k6 => k_is)
    (case a8x3 => k_is); (case i8x3 => k_is); (case l8x3 => k_is); (case c8x3 => k_is); (case k8x3 => k_is)
    (case a8x1 => k_is); (case i8x1 => k_is); (case l8x1 => k_is); (case c8x1 => k_is); (case k8x1 => k_is)
    (case a8x0 => k_is); (case i8x0 => k_is); (case l8x0 => k_is); (case c8x0 => k_is); (case k8x0 => k_is)
    (case a10 => k_is); (case l10 => k_is); (case c10 => k_is); (case k10 => k_is)
    (case a8x4 => k_is); (case i8x4 => k_is); (case l8x4 => k_is); (case c8x4 => k_is); (case k8x4 => k_is)
    (case a11 => k_is); (case l11 => k_is); (case c11 => k_is); (case k11 => k_is)
    (case a8x5 => k_is); (case i8x5 => k_is); (case l8x5 => k_is); (case c8x5 => k_is); (case k8x5 => k_is)
    (case a12 => k_is); (case l12 => k_is); (case c12 => k_is); (case k12 => k_is)
    (case a14 => k_is); (case l14 => k_is); (case c14 => k_is); (case k14 => k_is)
    (case a13 => k_is); (case l13 => k_is); (case c13 => k_is); (case k13 => k_is)
    (case a16 => k_is); (case l16 => k_is); (case c16 => k_is); (case k16 => k_is)
    (case a17 => k_is); (case l17 => k_is); (case c17 => k_is); (case k17 => k_is)
    (case a18 => k_is); (case l18 => k_is); (case c18 => k_is); (case k18 => k_is)
    (case a19 => k_is); (case l19 => k_is); (case c19 => k_is); (case k19 => k_is)
    (case a20 => k_is); (case l20 => k_is); (case c20 => k_is); (case k20 => k_is)
    (case a21 => k_is); (case l21 => k_is); (case c21 => k_is); (case k21 => k_is)
    (case a22 => k_is); (case l22 => k_is); (case c22 => k_is); (case k22 => k_is)
    (case a23 => k_is); (case l23 => k_is); (case c23 => k_is); (case k23 => k_is)
    (case a24 => k_is); (case l24 => k_is); (case c24 => k_is); (case k24 => k_is)
    (case a25 => k_is); (case l25 => k_is); (case c25 => k_is); (case k25 => k_is)
    (case a26 => k_is); (case l26 => k_is); (case c26 => k_is); (case k26 => k_is)
    (case a27 => k_is); (case l27 => k_is); (case c27 => k_is); (case k27 => k_is)
    (case a28 => k_is); (case l28 => k_is); (case c28 => k_is); (case k28 => k_is)
    (case a29 => k_is); (case l29 => k_is); (case c29 => k_is); (case k29 => k_is)
    (case a30 => k_is); (case l30 => k_is); (case c30 => k_is); (case k30 => k_is)
    (case z_abs => k_is); (case z_all => k_is); (case z_any => k_is); (case z_bool => k_is); (case z_enumerate => k_is); (case z_int => k_is); (case z_isinstance => k_is); (case z_len => k_is); (case z_list => k_is); (case z_range => k_is); (case z_set => k_is); (case z_sorted => k_is); (case z_str => k_is); (case z_tuple => k_is); (case z_zip => k_is)

